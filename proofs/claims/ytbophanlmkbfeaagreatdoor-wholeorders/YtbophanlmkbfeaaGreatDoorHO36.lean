/-
A part.
A part.
-/
import Derived.BigRegion
import Derived.Test.YtbophanlmkbfeaaGreatDoorHO35
import Derived.Test.YtbophanlmkbfeaaGreatDoorHO13
namespace Go.Proofs.YtbophanlmkbfeaaGreatDoor
open Go.RowKit
set_option maxRecDepth 100000
set_option maxHeartbeats 20000000
theorem rtread_yes (s : ByteArray) (w : World) (hs : s.size = 26) (h : tlOk (tlE s) = true) :
    Calls Tryz.prog 11 #[.agg #[.int .i64 32, .string s]] w fun e w' => e = .returned (.tuple #[.agg #[.int .i64 (tickS s), .int .i64 (bt s 6 : Nat), .int .i64 (bt s 7 : Nat), .int .i64 (bt s 8 : Nat), .int .i64 (bt s 9 : Nat), .int .i64 (cnt s 10 : Nat), .int .i64 (sg (cnt s 12)), .int .i64 (sg (cnt s 14)), .int .i64 (sg (cnt s 16)), .int .i64 (sg (cnt s 18)), .int .i64 (sg (cnt s 20)), .int .i64 (sg (cnt s 22)), .int .i64 (sg (cnt s 24))], .bool true]) ∧ Below w.heap.size w w' := by
 have hm : ∀ W : World, Calls Tryz.prog 32 #[.agg #[.int .i64 (tickS s), .int .i64 (bt s 6 : Nat), .int .i64 (bt s 7 : Nat), .int .i64 (bt s 8 : Nat), .int .i64 (bt s 9 : Nat), .int .i64 (cnt s 10 : Nat), .int .i64 (sg (cnt s 12)), .int .i64 (sg (cnt s 14)), .int .i64 (sg (cnt s 16)), .int .i64 (sg (cnt s 18)), .int .i64 (sg (cnt s 20)), .int .i64 (sg (cnt s 22)), .int .i64 (sg (cnt s 24))]] W fun e w' => e = .returned (.bool (tlOk (tlE s))) ∧ Below W.heap.size W w' := rtRight_any (tlE s)
 rw [h] at hm
 clear h
 have hs0 := fun W => rtcount_any s 12 12 W rfl (by omega) (by omega)
 have hs1 := fun W => rtcount_any s 14 14 W rfl (by omega) (by omega)
 have hs2 := fun W => rtcount_any s 16 16 W rfl (by omega) (by omega)
 have hs3 := fun W => rtcount_any s 18 18 W rfl (by omega) (by omega)
 have hs4 := fun W => rtcount_any s 20 20 W rfl (by omega) (by omega)
 have hs5 := fun W => rtcount_any s 22 22 W rfl (by omega) (by omega)
 have hs6 := fun W => rtcount_any s 24 24 W rfl (by omega) (by omega)
 have i6 := idx_run (s := s) (i := 6) (n := 6) (by omega) rfl
 have i7 := idx_run (s := s) (i := 7) (n := 7) (by omega) rfl
 have i8 := idx_run (s := s) (i := 8) (n := 8) (by omega) rfl
 have i9 := idx_run (s := s) (i := 9) (n := 9) (by omega) rfl
 have i10 := idx_run (s := s) (i := 10) (n := 10) (by omega) rfl
 have i11 := idx_run (s := s) (i := 11) (n := 11) (by omega) rfl
 have HT : Hid (tickS s = (tickK s 6 : Nat)) := rfl
 have hc : cnt s 10 = bt s 10 * 256 + bt s 11 := rfl
 have l6 := bt_lt s 6
 have l7 := bt_lt s 7
 have l8 := bt_lt s 8
 have l9 := bt_lt s 9
 have l10 := bt_lt s 10
 have l11 := bt_lt s 11
 generalize tickS s = x0 at *
 generalize bt s 6 = y1 at *
 generalize bt s 7 = y2 at *
 generalize bt s 8 = y3 at *
 generalize bt s 9 = y4 at *
 generalize cnt s 10 = y5 at *
 generalize bt s 10 = y6 at *
 generalize bt s 11 = y7 at *
 generalize sg (cnt s 12) = x6 at *
 generalize sg (cnt s 14) = x7 at *
 generalize sg (cnt s 16) = x8 at *
 generalize sg (cnt s 18) = x9 at *
 generalize sg (cnt s 20) = x10 at *
 generalize sg (cnt s 22) = x11 at *
 generalize sg (cnt s 24) = x12 at *
 have u1 : IntKind.i64.wrap (y1 : Int) = y1 := by rw [IntKind.wrap_i64]; omega
 have u2 : IntKind.i64.wrap (y2 : Int) = y2 := by rw [IntKind.wrap_i64]; omega
 have u3 : IntKind.i64.wrap (y3 : Int) = y3 := by rw [IntKind.wrap_i64]; omega
 have u4 : IntKind.i64.wrap (y4 : Int) = y4 := by rw [IntKind.wrap_i64]; omega
 have v6 : IntKind.i64.wrap (y6 : Int) = y6 := by rw [IntKind.wrap_i64]; omega
 have v7 : IntKind.i64.wrap (y7 : Int) = y7 := by rw [IntKind.wrap_i64]; omega
 have v8 : IntKind.i64.wrap ((y6 : Int) * 256) = (y6 : Int) * 256 := by rw [IntKind.wrap_i64]; omega
 have v9 : IntKind.i64.wrap ((y6 : Int) * 256 + y7) = (y5 : Nat) := by rw [IntKind.wrap_i64]; omega
 clear hc
 clear l6
 clear l7
 clear l8
 clear l9
 clear l10
 clear l11
 generalize (y1 : Int) = x1 at *
 generalize (y2 : Int) = x2 at *
 generalize (y3 : Int) = x3 at *
 generalize (y4 : Int) = x4 at *
 generalize (y5 : Int) = x5 at *
 generalize (y6 : Int) = x6' at *
 generalize (y7 : Int) = x7' at *
 go_enter Tryz.func11, Tryz.ntmps11
 go_wp2_with fail
 go_loopw [5] (fun iv wr => ∃ j : Nat, j ≤ 6 ∧ iv = .int .i64 j ∧ Below w.heap.size w wr ∧ Arr (w.heap.size) [.int .i64 32, .string s] wr ∧ Arr (w.heap.size + 1) [.int .i64 0, .int .i64 0, .int .i64 0, .int .i64 0, .int .i64 0, .int .i64 0, .int .i64 0, .int .i64 0, .int .i64 0, .int .i64 0, .int .i64 0, .int .i64 0, .int .i64 0] wr ∧ Arr (w.heap.size + 1 + 1) [.int .i64 (tickK s j : Nat), .int .i64 0, .int .i64 0, .int .i64 0, .int .i64 0, .int .i64 0, .int .i64 0, .int .i64 0, .int .i64 0, .int .i64 0, .int .i64 0, .int .i64 0, .int .i64 0] wr) (fun iv _ => 6 - (intOf iv).toNat)
 case atStart =>
  exact ⟨0, by omega, rfl, bel_al (bel_al (bel_al (Below.refl _ _) _) _) _, ((Arr_at w w.heap.size [.int .i64 32, .string s] _ rfl).alloc _).alloc _, (Arr_at _ (w.heap.size + 1) [.int .i64 0, .int .i64 0, .int .i64 0, .int .i64 0, .int .i64 0, .int .i64 0, .int .i64 0, .int .i64 0, .int .i64 0, .int .i64 0, .int .i64 0, .int .i64 0, .int .i64 0] _ (by simp)).alloc _, Arr_at _ (w.heap.size + 1 + 1) [.int .i64 0, .int .i64 0, .int .i64 0, .int .i64 0, .int .i64 0, .int .i64 0, .int .i64 0, .int .i64 0, .int .i64 0, .int .i64 0, .int .i64 0, .int .i64 0, .int .i64 0] _ (by simp)⟩
 case round =>
  obtain ⟨j, hj, rfl, L1, B1, R1, O1⟩ := hrel
  have Bz1 := B1.lies
  have Rz1 := R1.lies
  have Oz1 := O1.lies
  by_cases hj6 : j < 6
  ·have hi := idx_run (s := s) (i := (j : Int)) (n := j) (by omega) rfl
   have hb := bt_lt s j
   have ht : tickK s j < 1099511627776 := Nat.lt_of_lt_of_le (tickK_lt s j) (show 256 ^ j ≤ 256 ^ 5 from Nat.pow_le_pow_right (by decide) (by omega))
   have HT : Hid (tickK s (j + 1) = tickK s j * 256 + bt s j) := rfl
   generalize tickK s j = t at ht HT O1
   generalize bt s j = b at hi hb HT
   have w0 : IntKind.i64.wrap (b : Int) = b := by rw [IntKind.wrap_i64]; omega
   have w1 : IntKind.i64.wrap ((t : Int) * 256) = (t : Int) * 256 := by rw [IntKind.wrap_i64]; omega
   have w2 : IntKind.i64.wrap ((t : Int) * 256 + b) = (t : Int) * 256 + b := by rw [IntKind.wrap_i64]; omega
   have cO_0 : wr.cell? ⟨w.heap.size + 1 + 1, 0, none⟩ = some (.int .i64 (t : Nat)) := O1.c 0 (zD rfl)
   have gO_0 := O1.f 0 (zD rfl)
   have cB_1 : wr.cell? ⟨w.heap.size, 1, none⟩ = some (.string s) := B1.c 1 (zD rfl)
   go_wp2_with fail
   go_region
   go_wp2_with fail
   go_roundw
   case rel => exact ⟨j + 1, by omega, by go_num, bel_drew (bel_new L1 _ _ (by omega) _), (B1.new _ _ (by omega) _).drew, (R1.new _ _ (by omega) _).drew, (O1.put 0 (zD rfl) (.int .i64 ((t : Int) * 256 + b)) [.int .i64 (tickK s (j + 1) : Nat), .int .i64 0, .int .i64 0, .int .i64 0, .int .i64 0, .int .i64 0, .int .i64 0, .int .i64 0, .int .i64 0, .int .i64 0, .int .i64 0, .int .i64 0, .int .i64 0] (by rw [HT.out, show ((t * 256 + b : Nat) : Int) = (t : Int) * 256 + b by omega]; rfl)).drew⟩
   case measure => simp [intOf]; omega
  ·obtain rfl : j = 6 := by omega
   rw [← HT.out] at O1
   obtain ⟨W1, hW⟩ : ∃ W1, W1 = wr := ⟨_, rfl⟩
   rw [← hW] at L1 B1 R1 O1 Bz1 Rz1 Oz1 ⊢
   clear hW HT
   have cB_1 : W1.cell? ⟨w.heap.size, 1, none⟩ = some (.string s) := B1.c 1 (zD rfl)
   have cO_1 : W1.cell? ⟨w.heap.size + 1 + 1, 1, none⟩ = some (.int .i64 0) := O1.c 1 (zD rfl)
   have gO_1 := O1.f 1 (zD rfl)
   have cO_2 : W1.cell? ⟨w.heap.size + 1 + 1, 2, none⟩ = some (.int .i64 0) := O1.c 2 (zD rfl)
   have gO_2 := O1.f 2 (zD rfl)
   have cO_3 : W1.cell? ⟨w.heap.size + 1 + 1, 3, none⟩ = some (.int .i64 0) := O1.c 3 (zD rfl)
   have gO_3 := O1.f 3 (zD rfl)
   have cO_4 : W1.cell? ⟨w.heap.size + 1 + 1, 4, none⟩ = some (.int .i64 0) := O1.c 4 (zD rfl)
   have gO_4 := O1.f 4 (zD rfl)
   have cO_5 : W1.cell? ⟨w.heap.size + 1 + 1, 5, none⟩ = some (.int .i64 0) := O1.c 5 (zD rfl)
   have gO_5 := O1.f 5 (zD rfl)
   go_wp2_with fail
   go_region
   go_wp2_with fail
   refine wp_loop_rounds 5 ?_
   refine rounds_letter (S := fun W => Below w.heap.size w W ∧ Arr (w.heap.size) [.int .i64 32, .string s] W ∧ Arr (w.heap.size + 1) [.int .i64 0, .int .i64 0, .int .i64 0, .int .i64 0, .int .i64 0, .int .i64 0, .int .i64 0, .int .i64 0, .int .i64 0, .int .i64 0, .int .i64 0, .int .i64 0, .int .i64 0] W ∧ Arr (w.heap.size + 1 + 1) [.int .i64 x0, .int .i64 x1, .int .i64 x2, .int .i64 x3, .int .i64 x4, .int .i64 x5, .int .i64 0, .int .i64 0, .int .i64 0, .int .i64 0, .int .i64 0, .int .i64 0, .int .i64 0] W) ⟨bel_drew (bel_new (bel_new (bel_new (bel_new (bel_new (L1) _ _ (by omega) _) _ _ (by omega) _) _ _ (by omega) _) _ _ (by omega) _) _ _ (by omega) _), Arr.drew (Arr.new (Arr.new (Arr.new (Arr.new (Arr.new (B1) _ _ (by omega) _) _ _ (by omega) _) _ _ (by omega) _) _ _ (by omega) _) _ _ (by omega) _), Arr.drew (Arr.new (Arr.new (Arr.new (Arr.new (Arr.new (R1) _ _ (by omega) _) _ _ (by omega) _) _ _ (by omega) _) _ _ (by omega) _) _ _ (by omega) _), Arr.drew (Arr.put (Arr.put (Arr.put (Arr.put (Arr.put (O1) 1 (zD rfl) (.int .i64 x1) [.int .i64 x0, .int .i64 x1, .int .i64 0, .int .i64 0, .int .i64 0, .int .i64 0, .int .i64 0, .int .i64 0, .int .i64 0, .int .i64 0, .int .i64 0, .int .i64 0, .int .i64 0] rfl) 2 (zD rfl) (.int .i64 x2) [.int .i64 x0, .int .i64 x1, .int .i64 x2, .int .i64 0, .int .i64 0, .int .i64 0, .int .i64 0, .int .i64 0, .int .i64 0, .int .i64 0, .int .i64 0, .int .i64 0, .int .i64 0] rfl) 3 (zD rfl) (.int .i64 x3) [.int .i64 x0, .int .i64 x1, .int .i64 x2, .int .i64 x3, .int .i64 0, .int .i64 0, .int .i64 0, .int .i64 0, .int .i64 0, .int .i64 0, .int .i64 0, .int .i64 0, .int .i64 0] rfl) 4 (zD rfl) (.int .i64 x4) [.int .i64 x0, .int .i64 x1, .int .i64 x2, .int .i64 x3, .int .i64 x4, .int .i64 0, .int .i64 0, .int .i64 0, .int .i64 0, .int .i64 0, .int .i64 0, .int .i64 0, .int .i64 0] rfl) 5 (zD rfl) (.int .i64 x5) [.int .i64 x0, .int .i64 x1, .int .i64 x2, .int .i64 x3, .int .i64 x4, .int .i64 x5, .int .i64 0, .int .i64 0, .int .i64 0, .int .i64 0, .int .i64 0, .int .i64 0, .int .i64 0] rfl)⟩ ?_
   rintro W2 ⟨L2, B2, R2, O2⟩
   have Bz2 := B2.lies
   have Rz2 := R2.lies
   have Oz2 := O2.lies
   clear cB_1 cO_1 gO_1 cO_2 gO_2 cO_3 gO_3 cO_4 gO_4 cO_5 gO_5
   clear L1 B1 R1 O1 Bz1 Rz1 Oz1
   rw [rounds_succ]
   have cB_1 : W2.cell? ⟨w.heap.size, 1, none⟩ = some (.string s) := B2.c 1 (zD rfl)
   have cO_6 : W2.cell? ⟨w.heap.size + 1 + 1, 6, none⟩ = some (.int .i64 0) := O2.c 6 (zD rfl)
   have gO_6 := O2.f 6 (zD rfl)
   go_wp2_with fail
   refine (hs0 _).mono ?_
   rintro e X ⟨rfl, rfl⟩
   go_wp2_with fail
   refine rounds_letter (S := fun W => Below w.heap.size w W ∧ Arr (w.heap.size) [.int .i64 32, .string s] W ∧ Arr (w.heap.size + 1) [.int .i64 0, .int .i64 0, .int .i64 0, .int .i64 0, .int .i64 0, .int .i64 0, .int .i64 0, .int .i64 0, .int .i64 0, .int .i64 0, .int .i64 0, .int .i64 0, .int .i64 0] W ∧ Arr (w.heap.size + 1 + 1) [.int .i64 x0, .int .i64 x1, .int .i64 x2, .int .i64 x3, .int .i64 x4, .int .i64 x5, .int .i64 x6, .int .i64 0, .int .i64 0, .int .i64 0, .int .i64 0, .int .i64 0, .int .i64 0] W) ⟨bel_drew (bel_new (L2) _ _ (by omega) _), Arr.drew (Arr.new (B2) _ _ (by omega) _), Arr.drew (Arr.new (R2) _ _ (by omega) _), Arr.drew (Arr.put (O2) 6 (zD rfl) (.int .i64 x6) [.int .i64 x0, .int .i64 x1, .int .i64 x2, .int .i64 x3, .int .i64 x4, .int .i64 x5, .int .i64 x6, .int .i64 0, .int .i64 0, .int .i64 0, .int .i64 0, .int .i64 0, .int .i64 0] rfl)⟩ ?_
   rintro W3 ⟨L3, B3, R3, O3⟩
   have Bz3 := B3.lies
   have Rz3 := R3.lies
   have Oz3 := O3.lies
   clear cB_1 cO_6 gO_6
   clear L2 B2 R2 O2 Bz2 Rz2 Oz2
   rw [rounds_succ]
   have cB_1 : W3.cell? ⟨w.heap.size, 1, none⟩ = some (.string s) := B3.c 1 (zD rfl)
   have cO_7 : W3.cell? ⟨w.heap.size + 1 + 1, 7, none⟩ = some (.int .i64 0) := O3.c 7 (zD rfl)
   have gO_7 := O3.f 7 (zD rfl)
   go_wp2_with fail
   refine (hs1 _).mono ?_
   rintro e X ⟨rfl, rfl⟩
   go_wp2_with fail
   refine rounds_letter (S := fun W => Below w.heap.size w W ∧ Arr (w.heap.size) [.int .i64 32, .string s] W ∧ Arr (w.heap.size + 1) [.int .i64 0, .int .i64 0, .int .i64 0, .int .i64 0, .int .i64 0, .int .i64 0, .int .i64 0, .int .i64 0, .int .i64 0, .int .i64 0, .int .i64 0, .int .i64 0, .int .i64 0] W ∧ Arr (w.heap.size + 1 + 1) [.int .i64 x0, .int .i64 x1, .int .i64 x2, .int .i64 x3, .int .i64 x4, .int .i64 x5, .int .i64 x6, .int .i64 x7, .int .i64 0, .int .i64 0, .int .i64 0, .int .i64 0, .int .i64 0] W) ⟨bel_drew (bel_new (L3) _ _ (by omega) _), Arr.drew (Arr.new (B3) _ _ (by omega) _), Arr.drew (Arr.new (R3) _ _ (by omega) _), Arr.drew (Arr.put (O3) 7 (zD rfl) (.int .i64 x7) [.int .i64 x0, .int .i64 x1, .int .i64 x2, .int .i64 x3, .int .i64 x4, .int .i64 x5, .int .i64 x6, .int .i64 x7, .int .i64 0, .int .i64 0, .int .i64 0, .int .i64 0, .int .i64 0] rfl)⟩ ?_
   rintro W4 ⟨L4, B4, R4, O4⟩
   have Bz4 := B4.lies
   have Rz4 := R4.lies
   have Oz4 := O4.lies
   clear cB_1 cO_7 gO_7
   clear L3 B3 R3 O3 Bz3 Rz3 Oz3
   rw [rounds_succ]
   have cB_1 : W4.cell? ⟨w.heap.size, 1, none⟩ = some (.string s) := B4.c 1 (zD rfl)
   have cO_8 : W4.cell? ⟨w.heap.size + 1 + 1, 8, none⟩ = some (.int .i64 0) := O4.c 8 (zD rfl)
   have gO_8 := O4.f 8 (zD rfl)
   go_wp2_with fail
   refine (hs2 _).mono ?_
   rintro e X ⟨rfl, rfl⟩
   go_wp2_with fail
   refine rounds_letter (S := fun W => Below w.heap.size w W ∧ Arr (w.heap.size) [.int .i64 32, .string s] W ∧ Arr (w.heap.size + 1) [.int .i64 0, .int .i64 0, .int .i64 0, .int .i64 0, .int .i64 0, .int .i64 0, .int .i64 0, .int .i64 0, .int .i64 0, .int .i64 0, .int .i64 0, .int .i64 0, .int .i64 0] W ∧ Arr (w.heap.size + 1 + 1) [.int .i64 x0, .int .i64 x1, .int .i64 x2, .int .i64 x3, .int .i64 x4, .int .i64 x5, .int .i64 x6, .int .i64 x7, .int .i64 x8, .int .i64 0, .int .i64 0, .int .i64 0, .int .i64 0] W) ⟨bel_drew (bel_new (L4) _ _ (by omega) _), Arr.drew (Arr.new (B4) _ _ (by omega) _), Arr.drew (Arr.new (R4) _ _ (by omega) _), Arr.drew (Arr.put (O4) 8 (zD rfl) (.int .i64 x8) [.int .i64 x0, .int .i64 x1, .int .i64 x2, .int .i64 x3, .int .i64 x4, .int .i64 x5, .int .i64 x6, .int .i64 x7, .int .i64 x8, .int .i64 0, .int .i64 0, .int .i64 0, .int .i64 0] rfl)⟩ ?_
   rintro W5 ⟨L5, B5, R5, O5⟩
   have Bz5 := B5.lies
   have Rz5 := R5.lies
   have Oz5 := O5.lies
   clear cB_1 cO_8 gO_8
   clear L4 B4 R4 O4 Bz4 Rz4 Oz4
   rw [rounds_succ]
   have cB_1 : W5.cell? ⟨w.heap.size, 1, none⟩ = some (.string s) := B5.c 1 (zD rfl)
   have cO_9 : W5.cell? ⟨w.heap.size + 1 + 1, 9, none⟩ = some (.int .i64 0) := O5.c 9 (zD rfl)
   have gO_9 := O5.f 9 (zD rfl)
   go_wp2_with fail
   refine (hs3 _).mono ?_
   rintro e X ⟨rfl, rfl⟩
   go_wp2_with fail
   refine rounds_letter (S := fun W => Below w.heap.size w W ∧ Arr (w.heap.size) [.int .i64 32, .string s] W ∧ Arr (w.heap.size + 1) [.int .i64 0, .int .i64 0, .int .i64 0, .int .i64 0, .int .i64 0, .int .i64 0, .int .i64 0, .int .i64 0, .int .i64 0, .int .i64 0, .int .i64 0, .int .i64 0, .int .i64 0] W ∧ Arr (w.heap.size + 1 + 1) [.int .i64 x0, .int .i64 x1, .int .i64 x2, .int .i64 x3, .int .i64 x4, .int .i64 x5, .int .i64 x6, .int .i64 x7, .int .i64 x8, .int .i64 x9, .int .i64 0, .int .i64 0, .int .i64 0] W) ⟨bel_drew (bel_new (L5) _ _ (by omega) _), Arr.drew (Arr.new (B5) _ _ (by omega) _), Arr.drew (Arr.new (R5) _ _ (by omega) _), Arr.drew (Arr.put (O5) 9 (zD rfl) (.int .i64 x9) [.int .i64 x0, .int .i64 x1, .int .i64 x2, .int .i64 x3, .int .i64 x4, .int .i64 x5, .int .i64 x6, .int .i64 x7, .int .i64 x8, .int .i64 x9, .int .i64 0, .int .i64 0, .int .i64 0] rfl)⟩ ?_
   rintro W6 ⟨L6, B6, R6, O6⟩
   have Bz6 := B6.lies
   have Rz6 := R6.lies
   have Oz6 := O6.lies
   clear cB_1 cO_9 gO_9
   clear L5 B5 R5 O5 Bz5 Rz5 Oz5
   rw [rounds_succ]
   go_wp2_with fail
   refine wp_loop_rounds 4 ?_
   rw [rounds_succ]
   have cB_1 : W6.cell? ⟨w.heap.size, 1, none⟩ = some (.string s) := B6.c 1 (zD rfl)
   have cO_10 : W6.cell? ⟨w.heap.size + 1 + 1, 10, none⟩ = some (.int .i64 0) := O6.c 10 (zD rfl)
   have gO_10 := O6.f 10 (zD rfl)
   go_wp2_with fail
   refine (hs4 _).mono ?_
   rintro e X ⟨rfl, rfl⟩
   go_wp2_with fail
   refine rounds_letter (S := fun W => Below w.heap.size w W ∧ Arr (w.heap.size) [.int .i64 32, .string s] W ∧ Arr (w.heap.size + 1) [.int .i64 0, .int .i64 0, .int .i64 0, .int .i64 0, .int .i64 0, .int .i64 0, .int .i64 0, .int .i64 0, .int .i64 0, .int .i64 0, .int .i64 0, .int .i64 0, .int .i64 0] W ∧ Arr (w.heap.size + 1 + 1) [.int .i64 x0, .int .i64 x1, .int .i64 x2, .int .i64 x3, .int .i64 x4, .int .i64 x5, .int .i64 x6, .int .i64 x7, .int .i64 x8, .int .i64 x9, .int .i64 x10, .int .i64 0, .int .i64 0] W) ⟨bel_drew (bel_new (L6) _ _ (by omega) _), Arr.drew (Arr.new (B6) _ _ (by omega) _), Arr.drew (Arr.new (R6) _ _ (by omega) _), Arr.drew (Arr.put (O6) 10 (zD rfl) (.int .i64 x10) [.int .i64 x0, .int .i64 x1, .int .i64 x2, .int .i64 x3, .int .i64 x4, .int .i64 x5, .int .i64 x6, .int .i64 x7, .int .i64 x8, .int .i64 x9, .int .i64 x10, .int .i64 0, .int .i64 0] rfl)⟩ ?_
   rintro W7 ⟨L7, B7, R7, O7⟩
   have Bz7 := B7.lies
   have Rz7 := R7.lies
   have Oz7 := O7.lies
   clear cB_1 cO_10 gO_10
   clear L6 B6 R6 O6 Bz6 Rz6 Oz6
   rw [rounds_succ]
   have cB_1 : W7.cell? ⟨w.heap.size, 1, none⟩ = some (.string s) := B7.c 1 (zD rfl)
   have cO_11 : W7.cell? ⟨w.heap.size + 1 + 1, 11, none⟩ = some (.int .i64 0) := O7.c 11 (zD rfl)
   have gO_11 := O7.f 11 (zD rfl)
   go_wp2_with fail
   refine (hs5 _).mono ?_
   rintro e X ⟨rfl, rfl⟩
   go_wp2_with fail
   refine rounds_letter (S := fun W => Below w.heap.size w W ∧ Arr (w.heap.size) [.int .i64 32, .string s] W ∧ Arr (w.heap.size + 1) [.int .i64 0, .int .i64 0, .int .i64 0, .int .i64 0, .int .i64 0, .int .i64 0, .int .i64 0, .int .i64 0, .int .i64 0, .int .i64 0, .int .i64 0, .int .i64 0, .int .i64 0] W ∧ Arr (w.heap.size + 1 + 1) [.int .i64 x0, .int .i64 x1, .int .i64 x2, .int .i64 x3, .int .i64 x4, .int .i64 x5, .int .i64 x6, .int .i64 x7, .int .i64 x8, .int .i64 x9, .int .i64 x10, .int .i64 x11, .int .i64 0] W) ⟨bel_drew (bel_new (L7) _ _ (by omega) _), Arr.drew (Arr.new (B7) _ _ (by omega) _), Arr.drew (Arr.new (R7) _ _ (by omega) _), Arr.drew (Arr.put (O7) 11 (zD rfl) (.int .i64 x11) [.int .i64 x0, .int .i64 x1, .int .i64 x2, .int .i64 x3, .int .i64 x4, .int .i64 x5, .int .i64 x6, .int .i64 x7, .int .i64 x8, .int .i64 x9, .int .i64 x10, .int .i64 x11, .int .i64 0] rfl)⟩ ?_
   rintro W8 ⟨L8, B8, R8, O8⟩
   have Bz8 := B8.lies
   have Rz8 := R8.lies
   have Oz8 := O8.lies
   clear cB_1 cO_11 gO_11
   clear L7 B7 R7 O7 Bz7 Rz7 Oz7
   rw [rounds_succ]
   have cB_1 : W8.cell? ⟨w.heap.size, 1, none⟩ = some (.string s) := B8.c 1 (zD rfl)
   have cO_12 : W8.cell? ⟨w.heap.size + 1 + 1, 12, none⟩ = some (.int .i64 0) := O8.c 12 (zD rfl)
   have gO_12 := O8.f 12 (zD rfl)
   go_wp2_with fail
   refine (hs6 _).mono ?_
   rintro e X ⟨rfl, rfl⟩
   go_wp2_with fail
   refine rounds_letter (S := fun W => Below w.heap.size w W ∧ Arr (w.heap.size) [.int .i64 32, .string s] W ∧ Arr (w.heap.size + 1) [.int .i64 0, .int .i64 0, .int .i64 0, .int .i64 0, .int .i64 0, .int .i64 0, .int .i64 0, .int .i64 0, .int .i64 0, .int .i64 0, .int .i64 0, .int .i64 0, .int .i64 0] W ∧ Arr (w.heap.size + 1 + 1) [.int .i64 x0, .int .i64 x1, .int .i64 x2, .int .i64 x3, .int .i64 x4, .int .i64 x5, .int .i64 x6, .int .i64 x7, .int .i64 x8, .int .i64 x9, .int .i64 x10, .int .i64 x11, .int .i64 x12] W) ⟨bel_drew (bel_new (L8) _ _ (by omega) _), Arr.drew (Arr.new (B8) _ _ (by omega) _), Arr.drew (Arr.new (R8) _ _ (by omega) _), Arr.drew (Arr.put (O8) 12 (zD rfl) (.int .i64 x12) [.int .i64 x0, .int .i64 x1, .int .i64 x2, .int .i64 x3, .int .i64 x4, .int .i64 x5, .int .i64 x6, .int .i64 x7, .int .i64 x8, .int .i64 x9, .int .i64 x10, .int .i64 x11, .int .i64 x12] rfl)⟩ ?_
   rintro W9 ⟨L9, B9, R9, O9⟩
   have Bz9 := B9.lies
   have Rz9 := R9.lies
   have Oz9 := O9.lies
   clear cB_1 cO_12 gO_12
   clear L8 B8 R8 O8 Bz8 Rz8 Oz8
   rw [rounds_succ]
   have cO_0 : W9.cell? ⟨w.heap.size + 1 + 1, 0, none⟩ = some (.int .i64 x0) := O9.c 0 (zD rfl)
   have cO_1 : W9.cell? ⟨w.heap.size + 1 + 1, 1, none⟩ = some (.int .i64 x1) := O9.c 1 (zD rfl)
   have cO_2 : W9.cell? ⟨w.heap.size + 1 + 1, 2, none⟩ = some (.int .i64 x2) := O9.c 2 (zD rfl)
   have cO_3 : W9.cell? ⟨w.heap.size + 1 + 1, 3, none⟩ = some (.int .i64 x3) := O9.c 3 (zD rfl)
   have cO_4 : W9.cell? ⟨w.heap.size + 1 + 1, 4, none⟩ = some (.int .i64 x4) := O9.c 4 (zD rfl)
   have cO_5 : W9.cell? ⟨w.heap.size + 1 + 1, 5, none⟩ = some (.int .i64 x5) := O9.c 5 (zD rfl)
   have cO_6 : W9.cell? ⟨w.heap.size + 1 + 1, 6, none⟩ = some (.int .i64 x6) := O9.c 6 (zD rfl)
   have cO_7 : W9.cell? ⟨w.heap.size + 1 + 1, 7, none⟩ = some (.int .i64 x7) := O9.c 7 (zD rfl)
   have cO_8 : W9.cell? ⟨w.heap.size + 1 + 1, 8, none⟩ = some (.int .i64 x8) := O9.c 8 (zD rfl)
   have cO_9 : W9.cell? ⟨w.heap.size + 1 + 1, 9, none⟩ = some (.int .i64 x9) := O9.c 9 (zD rfl)
   have cO_10 : W9.cell? ⟨w.heap.size + 1 + 1, 10, none⟩ = some (.int .i64 x10) := O9.c 10 (zD rfl)
   have cO_11 : W9.cell? ⟨w.heap.size + 1 + 1, 11, none⟩ = some (.int .i64 x11) := O9.c 11 (zD rfl)
   have cO_12 : W9.cell? ⟨w.heap.size + 1 + 1, 12, none⟩ = some (.int .i64 x12) := O9.c 12 (zD rfl)
   go_wp2_with fail
   refine (hm _).mono ?_
   rintro e W10 ⟨rfl, k⟩
   have L10 := bel_then L9 k
   have B10 := B9.below k
   have R10 := R9.below k
   have O10 := O9.below k
   have Bz10 := B10.lies
   have Rz10 := R10.lies
   have Oz10 := O10.lies
   clear k
   clear L9 B9 R9 O9 Bz9 Rz9 Oz9
   clear cO_0 cO_1 cO_2 cO_3 cO_4 cO_5 cO_6 cO_7 cO_8 cO_9 cO_10 cO_11 cO_12
   have cO_0 : W10.cell? ⟨w.heap.size + 1 + 1, 0, none⟩ = some (.int .i64 x0) := O10.c 0 (zD rfl)
   have cO_1 : W10.cell? ⟨w.heap.size + 1 + 1, 1, none⟩ = some (.int .i64 x1) := O10.c 1 (zD rfl)
   have cO_2 : W10.cell? ⟨w.heap.size + 1 + 1, 2, none⟩ = some (.int .i64 x2) := O10.c 2 (zD rfl)
   have cO_3 : W10.cell? ⟨w.heap.size + 1 + 1, 3, none⟩ = some (.int .i64 x3) := O10.c 3 (zD rfl)
   have cO_4 : W10.cell? ⟨w.heap.size + 1 + 1, 4, none⟩ = some (.int .i64 x4) := O10.c 4 (zD rfl)
   have cO_5 : W10.cell? ⟨w.heap.size + 1 + 1, 5, none⟩ = some (.int .i64 x5) := O10.c 5 (zD rfl)
   have cO_6 : W10.cell? ⟨w.heap.size + 1 + 1, 6, none⟩ = some (.int .i64 x6) := O10.c 6 (zD rfl)
   have cO_7 : W10.cell? ⟨w.heap.size + 1 + 1, 7, none⟩ = some (.int .i64 x7) := O10.c 7 (zD rfl)
   have cO_8 : W10.cell? ⟨w.heap.size + 1 + 1, 8, none⟩ = some (.int .i64 x8) := O10.c 8 (zD rfl)
   have cO_9 : W10.cell? ⟨w.heap.size + 1 + 1, 9, none⟩ = some (.int .i64 x9) := O10.c 9 (zD rfl)
   have cO_10 : W10.cell? ⟨w.heap.size + 1 + 1, 10, none⟩ = some (.int .i64 x10) := O10.c 10 (zD rfl)
   have cO_11 : W10.cell? ⟨w.heap.size + 1 + 1, 11, none⟩ = some (.int .i64 x11) := O10.c 11 (zD rfl)
   have cO_12 : W10.cell? ⟨w.heap.size + 1 + 1, 12, none⟩ = some (.int .i64 x12) := O10.c 12 (zD rfl)
   have c0 : W10.cell? ⟨w.heap.size + 1, 0, none⟩ = some (.int .i64 0) := R10.c 0 (zD rfl)
   have f0 := R10.f 0 (zD rfl)
   have c1 : W10.cell? ⟨w.heap.size + 1, 1, none⟩ = some (.int .i64 0) := R10.c 1 (zD rfl)
   have f1 := R10.f 1 (zD rfl)
   have c2 : W10.cell? ⟨w.heap.size + 1, 2, none⟩ = some (.int .i64 0) := R10.c 2 (zD rfl)
   have f2 := R10.f 2 (zD rfl)
   have c3 : W10.cell? ⟨w.heap.size + 1, 3, none⟩ = some (.int .i64 0) := R10.c 3 (zD rfl)
   have f3 := R10.f 3 (zD rfl)
   have c4 : W10.cell? ⟨w.heap.size + 1, 4, none⟩ = some (.int .i64 0) := R10.c 4 (zD rfl)
   have f4 := R10.f 4 (zD rfl)
   have c5 : W10.cell? ⟨w.heap.size + 1, 5, none⟩ = some (.int .i64 0) := R10.c 5 (zD rfl)
   have f5 := R10.f 5 (zD rfl)
   have c6 : W10.cell? ⟨w.heap.size + 1, 6, none⟩ = some (.int .i64 0) := R10.c 6 (zD rfl)
   have f6 := R10.f 6 (zD rfl)
   have c7 : W10.cell? ⟨w.heap.size + 1, 7, none⟩ = some (.int .i64 0) := R10.c 7 (zD rfl)
   have f7 := R10.f 7 (zD rfl)
   have c8 : W10.cell? ⟨w.heap.size + 1, 8, none⟩ = some (.int .i64 0) := R10.c 8 (zD rfl)
   have f8 := R10.f 8 (zD rfl)
   have c9 : W10.cell? ⟨w.heap.size + 1, 9, none⟩ = some (.int .i64 0) := R10.c 9 (zD rfl)
   have f9 := R10.f 9 (zD rfl)
   have c10 : W10.cell? ⟨w.heap.size + 1, 10, none⟩ = some (.int .i64 0) := R10.c 10 (zD rfl)
   have f10 := R10.f 10 (zD rfl)
   have c11 : W10.cell? ⟨w.heap.size + 1, 11, none⟩ = some (.int .i64 0) := R10.c 11 (zD rfl)
   have f11 := R10.f 11 (zD rfl)
   have c12 : W10.cell? ⟨w.heap.size + 1, 12, none⟩ = some (.int .i64 0) := R10.c 12 (zD rfl)
   have f12 := R10.f 12 (zD rfl)
   go_wp2_with (with_reducible refine post_stop ?_)
   have D := (((((((((((((R10.put 0 (zD rfl) (.int .i64 x0) [.int .i64 x0, .int .i64 0, .int .i64 0, .int .i64 0, .int .i64 0, .int .i64 0, .int .i64 0, .int .i64 0, .int .i64 0, .int .i64 0, .int .i64 0, .int .i64 0, .int .i64 0] rfl).put 1 (zD rfl) (.int .i64 x1) [.int .i64 x0, .int .i64 x1, .int .i64 0, .int .i64 0, .int .i64 0, .int .i64 0, .int .i64 0, .int .i64 0, .int .i64 0, .int .i64 0, .int .i64 0, .int .i64 0, .int .i64 0] rfl).put 2 (zD rfl) (.int .i64 x2) [.int .i64 x0, .int .i64 x1, .int .i64 x2, .int .i64 0, .int .i64 0, .int .i64 0, .int .i64 0, .int .i64 0, .int .i64 0, .int .i64 0, .int .i64 0, .int .i64 0, .int .i64 0] rfl).put 3 (zD rfl) (.int .i64 x3) [.int .i64 x0, .int .i64 x1, .int .i64 x2, .int .i64 x3, .int .i64 0, .int .i64 0, .int .i64 0, .int .i64 0, .int .i64 0, .int .i64 0, .int .i64 0, .int .i64 0, .int .i64 0] rfl).put 4 (zD rfl) (.int .i64 x4) [.int .i64 x0, .int .i64 x1, .int .i64 x2, .int .i64 x3, .int .i64 x4, .int .i64 0, .int .i64 0, .int .i64 0, .int .i64 0, .int .i64 0, .int .i64 0, .int .i64 0, .int .i64 0] rfl).put 5 (zD rfl) (.int .i64 x5) [.int .i64 x0, .int .i64 x1, .int .i64 x2, .int .i64 x3, .int .i64 x4, .int .i64 x5, .int .i64 0, .int .i64 0, .int .i64 0, .int .i64 0, .int .i64 0, .int .i64 0, .int .i64 0] rfl).put 6 (zD rfl) (.int .i64 x6) [.int .i64 x0, .int .i64 x1, .int .i64 x2, .int .i64 x3, .int .i64 x4, .int .i64 x5, .int .i64 x6, .int .i64 0, .int .i64 0, .int .i64 0, .int .i64 0, .int .i64 0, .int .i64 0] rfl).put 7 (zD rfl) (.int .i64 x7) [.int .i64 x0, .int .i64 x1, .int .i64 x2, .int .i64 x3, .int .i64 x4, .int .i64 x5, .int .i64 x6, .int .i64 x7, .int .i64 0, .int .i64 0, .int .i64 0, .int .i64 0, .int .i64 0] rfl).put 8 (zD rfl) (.int .i64 x8) [.int .i64 x0, .int .i64 x1, .int .i64 x2, .int .i64 x3, .int .i64 x4, .int .i64 x5, .int .i64 x6, .int .i64 x7, .int .i64 x8, .int .i64 0, .int .i64 0, .int .i64 0, .int .i64 0] rfl).put 9 (zD rfl) (.int .i64 x9) [.int .i64 x0, .int .i64 x1, .int .i64 x2, .int .i64 x3, .int .i64 x4, .int .i64 x5, .int .i64 x6, .int .i64 x7, .int .i64 x8, .int .i64 x9, .int .i64 0, .int .i64 0, .int .i64 0] rfl).put 10 (zD rfl) (.int .i64 x10) [.int .i64 x0, .int .i64 x1, .int .i64 x2, .int .i64 x3, .int .i64 x4, .int .i64 x5, .int .i64 x6, .int .i64 x7, .int .i64 x8, .int .i64 x9, .int .i64 x10, .int .i64 0, .int .i64 0] rfl).put 11 (zD rfl) (.int .i64 x11) [.int .i64 x0, .int .i64 x1, .int .i64 x2, .int .i64 x3, .int .i64 x4, .int .i64 x5, .int .i64 x6, .int .i64 x7, .int .i64 x8, .int .i64 x9, .int .i64 x10, .int .i64 x11, .int .i64 0] rfl).put 12 (zD rfl) (.int .i64 x12) [.int .i64 x0, .int .i64 x1, .int .i64 x2, .int .i64 x3, .int .i64 x4, .int .i64 x5, .int .i64 x6, .int .i64 x7, .int .i64 x8, .int .i64 x9, .int .i64 x10, .int .i64 x11, .int .i64 x12] rfl)
   have d0 := D.c 0 (zD rfl)
   have d1 := D.c 1 (zD rfl)
   have d2 := D.c 2 (zD rfl)
   have d3 := D.c 3 (zD rfl)
   have d4 := D.c 4 (zD rfl)
   have d5 := D.c 5 (zD rfl)
   have d6 := D.c 6 (zD rfl)
   have d7 := D.c 7 (zD rfl)
   have d8 := D.c 8 (zD rfl)
   have d9 := D.c 9 (zD rfl)
   have d10 := D.c 10 (zD rfl)
   have d11 := D.c 11 (zD rfl)
   have d12 := D.c 12 (zD rfl)
   simp only [List.getElem_cons_zero, List.getElem_cons_succ] at d0 d1 d2 d3 d4 d5 d6 d7 d8 d9 d10 d11 d12
   exact ⟨bodyPost_ret (v := .tuple #[.agg #[.int .i64 x0, .int .i64 x1, .int .i64 x2, .int .i64 x3, .int .i64 x4, .int .i64 x5, .int .i64 x6, .int .i64 x7, .int .i64 x8, .int .i64 x9, .int .i64 x10, .int .i64 x11, .int .i64 x12], .bool true]) (by simp [results_cell_tmp Tryz.results11, asAddr, go_sem, d0, d1, d2, d3, d4, d5, d6, d7, d8, d9, d10, d11, d12]) rfl ⟨rfl, (bel_new (bel_new (bel_new (bel_new (bel_new (bel_new (bel_new (bel_new (bel_new (bel_new (bel_new (bel_new (bel_new L10 _ _ (by omega) _) _ _ (by omega) _) _ _ (by omega) _) _ _ (by omega) _) _ _ (by omega) _) _ _ (by omega) _) _ _ (by omega) _) _ _ (by omega) _) _ _ (by omega) _) _ _ (by omega) _) _ _ (by omega) _) _ _ (by omega) _) _ _ (by omega) _)⟩⟩
end Go.Proofs.YtbophanlmkbfeaaGreatDoor
namespace Go.Proofs.YtbophanlmkbfeaaGreatDoor
open Go.RowKit
def tlT (T : Tl) : Tel := (T.t, T.m, T.fa, T.ak, T.er, T.rj, T.q0, T.q1, T.q2, T.q3, T.d0, T.d1, T.d2, ())
theorem tlT_of (x : Tel) : tlT (tlOf x) = x := rfl
theorem opens_told (T : Tl) : ropenS (bytesOf T) = (32, strOf (tlL T), true) := by
 have hn : (strOf (tlL T)).data.toList.length = 26 := tlStr_size T
 have hl := look_wrap 32 (strOf (tlL T)).data.toList [] (by omega)
 rw [List.append_nil, hn] at hl
 have hw := wrapL_length 32 (strOf (tlL T)).data.toList
 have hb : (bytesOf T).data.toList = wrapL 32 (strOf (tlL T)).data.toList := rfl
 refine ropenS_yes (k := 32) hl ?_ ?_ rfl
 ·rw [hb, List.take_of_length_le (by omega)]
 ·rw [wrapL_parts]
  show (strOf (tlL T)).data.toList = List.take 26 ((strOf (tlL T)).data.toList ++ _)
  rw [List.take_append_of_le_length (by omega), List.take_of_length_le (by omega)]
def readS (s : ByteArray) : Tl := tlE (ropenS s).2.1
theorem readS_of {T : Tl} (h : tlOk T = true) : readS (bytesOf T) = T := by
 unfold readS
 rw [opens_told]
 exact tl_back h
def ToldOk (s : ByteArray) : Prop := ∃ T, tlOk T = true ∧ s = bytesOf T
set_option maxRecDepth 100000 in
theorem told_at {s : ByteArray} (h : ToldOk s) (w : World) (hw : GW w) : Calls Tryz.prog 34 #[.string s] w fun e w' => e = .returned ((two' (cT 13) cB).enc (tlT (readS s), true)) ∧ Below w.heap.size w w' := by
 obtain ⟨T, hT, rfl⟩ := h
 rw [readS_of hT]
 have hz : (bytesOf T).size ≤ 5000 := by
  have hn : (strOf (tlL T)).data.toList.length = 26 := tlStr_size T
  have hw := wrapL_length 32 (strOf (tlL T)).data.toList
  have hb : (bytesOf T).size = (wrapL 32 (strOf (tlL T)).data.toList).length := rfl
  omega
 have ho : ∀ w, GW w → Calls Tryz.prog 10 ((lone' cS).enc (bytesOf T)).toArray w fun e w' => e = .returned ((two' cFra cB).enc ((32, strOf (tlL T)), true)) ∧ Below w.heap.size w w' := fun w _ => by
  have := ropen_any (bytesOf T) w hz
  rw [opens_told] at this
  exact this
 have hr : ∀ w, GW w → Calls Tryz.prog 11 ((lone' cFra).enc (32, strOf (tlL T))).toArray w fun e w' => e = .returned ((two' (cT 13) cB).enc (tlT T, true)) ∧ Below w.heap.size w w' := fun w _ => by
  have h : Calls Tryz.prog 11 ((lone' cFra).enc (32, strOf (tlL T))).toArray w fun e w' => e = .returned ((two' (cT 13) cB).enc (tlT (tlE (strOf (tlL T))), true)) ∧ Below w.heap.size w w' := rtread_yes (strOf (tlL T)) w (tlStr_size T) (by rw [tl_back hT]; exact hT)
  rw [tl_back hT] at h
  exact h
 refine pure_at (d := lone' cS) (k := two' (cT 13) cB) (x := bytesOf T) (y := (tlT T, true)) (tbl := [ctAt Tryz.prog 10 (lone' cS) (two' cFra cB) (bytesOf T) ((32, strOf (tlL T)), true) (go_of Tryz.func10 (by kernel_rfl) (by kernel_rfl)) ho, ctAt Tryz.prog 11 (lone' cFra) (two' (cT 13) cB) (32, strOf (tlL T)) (tlT T, true) (go_of Tryz.func11 (by kernel_rfl) (by kernel_rfl)) hr]) (dirty := fun _ => []) (n := 4) xmixA Tryz.func34 rfl (fun Post hP => ?_) w hw
 refine Eq.mpr (β := (lone' cS).enc (bytesOf T) = (lone' cS).enc (bytesOf T) ∧ (lone' cFra).enc (32, strOf (tlL T)) = (lone' cFra).enc (32, strOf (tlL T)) ∧ PJ (two' (cT 13) cB) Post (tlT T, true)) (by kernel_rfl) ⟨rfl, rfl, hP⟩
def toldCt : Ct Tryz.prog := predCt Tryz.prog 34 (lone' cS) (fun s K => ToldOk s ∧ K ((two' (cT 13) cB).enc (tlT (readS s), true))) (fun _ _ _ hK hs => ⟨hs.1, hK _ hs.2⟩) (go_of Tryz.func34 (by kernel_rfl) (by kernel_rfl))
 (fun s w hw K hs => Calls.mono (told_at hs.1 w hw) (by rintro e w' ⟨rfl, hb⟩; exact ⟨_, rfl, rfl, hs.2, hb⟩))
def StepOk (x : Cra × Int × ByteArray) : Prop := CInv x.1 ∧ x.1.2.2.1.size + x.2.2.size ≤ 5000
def stepQ (F : Fs) (x : Cra × Int × ByteArray) (K : Value → Prop) : Prop :=
 StepOk x ∧ vif (stays x.1 x.2.1) (K ((two' cCra cS).enc (x.1, noBytes))) (K ((two' cCra cS).enc ((stepF F x.1 x.2.1 x.2.2).1, bytesOf (tlOf (telF F (stepF F x.1 x.2.1 x.2.2).1)))))
theorem stepQ_mono (F : Fs) (x : Cra × Int × ByteArray) (K K' : Value → Prop) (hK : ∀ v, K v → K' v) (h : stepQ F x K) : stepQ F x K' := by
 refine ⟨h.1, ?_⟩
 have h2 := h.2
 cases hs : stays x.1 x.2.1
 ·rw [hs] at h2
  exact hK _ h2
 ·rw [hs] at h2
  exact hK _ h2
theorem stepQ_at {F : Fs} (hF : FsIs F) (x : Cra × Int × ByteArray) (w : World) (hw : GW w) (K : Value → Prop) (h : stepQ F x K) :
    Calls Tryz.prog 9 ((then' cCra (then' cI (lone' cS))).enc x).toArray w fun e w' => ∃ v, e = .returned v ∧ isP v = false ∧ K v ∧ Below w.heap.size w w' := by
 obtain ⟨c, t, b⟩ := x
 obtain ⟨⟨hi, hz⟩, h2⟩ := h
 dsimp only at hi hz h2
 refine Calls.mono (stepF_at hF.ok c t b hz w hw) ?_
 rintro e w' ⟨rfl, hb⟩
 refine ⟨_, rfl, rfl, ?_, hb⟩
 cases hs : stays c t
 ·rw [hs] at h2
  have h2 : K ((two' cCra cS).enc ((stepF F c t b).1, bytesOf (tlOf (telF F (stepF F c t b).1)))) := h2
  rw [← (took hF hi b hs).2] at h2
  exact h2
 ·rw [hs] at h2
  rw [stays_yes hF hs b]
  exact h2
def stepCt (F : Fs) (hF : FsIs F) : Ct Tryz.prog := predCt Tryz.prog 9 (then' cCra (then' cI (lone' cS))) (stepQ F) (stepQ_mono F) (go_of Tryz.func9 (by kernel_rfl) (by kernel_rfl)) (stepQ_at hF)
end Go.Proofs.YtbophanlmkbfeaaGreatDoor
