/-
A part.
A part.
A part.
A part.
-/
import Derived.RegionTactic
import Derived.BigRegion
import Derived.Test.YtlpkfmfblglceaaGreatDoorGU23
namespace Go.Proofs.YtlpkfmfblglceaaGreatDoor
open Go.RowKit
set_option maxRecDepth 100000
set_option maxHeartbeats 20000000
theorem oread_none (k : Int) (s : ByteArray) (w : World) (h : s.size < 2) :
    Calls Tryz.prog 71 #[.agg #[.int .i64 k, .string s]] w fun e w' => e = .returned (.tuple #[.agg #[.int .i64 0, .int .i64 0, .int .i64 0, .int .i64 0, .int .i64 0, .int .i64 0, .int .i64 0, .int .i64 0, .int .i64 0], .int .i64 1]) ∧ Below w.heap.size w w' := by
 go_enter Tryz.func71, Tryz.ntmps71
 go_wp2_with (with_reducible refine post_stop ?_)
 exact ⟨bodyPost_ret (v := .tuple #[.agg #[.int .i64 0, .int .i64 0, .int .i64 0, .int .i64 0, .int .i64 0, .int .i64 0, .int .i64 0, .int .i64 0, .int .i64 0], .int .i64 1]) (by simp [results_cell_tmp Tryz.results71, asAddr, go_sem]) rfl ⟨rfl, bel_al (bel_al (Below.refl _ _) _) _⟩⟩
theorem oread_kind (k : Int) (s : ByteArray) (w : World) (h : 2 ≤ s.size) (hk : k ≠ 16) :
    Calls Tryz.prog 71 #[.agg #[.int .i64 k, .string s]] w fun e w' => e = .returned (.tuple #[.agg #[.int .i64 (bt s 0 : Nat), .int .i64 0, .int .i64 0, .int .i64 0, .int .i64 0, .int .i64 0, .int .i64 0, .int .i64 0, .int .i64 0], .int .i64 1]) ∧ Below w.heap.size w w' := by
 have i0 := idx_run (s := s) (i := 0) (n := 0) (by omega) rfl
 have i1 := idx_run (s := s) (i := 1) (n := 1) (by omega) rfl
 have r0 := bt_lt s 0
 have r1 := bt_lt s 1
 have hs := sizeOf_any (bt s 1 : Nat)
 have hk' : (k != 16) = true := by simpa using hk
 generalize sizeS (bt s 1 : Nat) = z at *
 generalize bt s 0 = b0 at *
 generalize bt s 1 = b1 at *
 go_enter Tryz.func71, Tryz.ntmps71
 go_wp2
 go_region
 go_wp2_with fail
 refine (hs _).mono ?_
 rintro e X ⟨rfl, rfl⟩
 go_wp2_with fail
 refine (refused_any b0 b1 z7 1 _).mono ?_
 rintro e W1 ⟨rfl, k1⟩
 have L1 := bel_then (bel_drew (bel_al (bel_al (bel_al (Below.refl _ w) (.cells #[.int .i64 k, .string s] 58)) (.cells #[.int .i64 0, .int .i64 0, .int .i64 0, .int .i64 0, .int .i64 0, .int .i64 0, .int .i64 0, .int .i64 0, .int .i64 0] 60)) (.cells #[.int .i64 b0, .int .i64 b1, .int .i64 0, .int .i64 0, .int .i64 0, .int .i64 0, .int .i64 0, .int .i64 0, .int .i64 0] 60))) k1
 have R1 := (((Arr_at (w.alloc (.cells #[.int .i64 k, .string s] 58)) (w.heap.size + 1) [.int .i64 0, .int .i64 0, .int .i64 0, .int .i64 0, .int .i64 0, .int .i64 0, .int .i64 0, .int .i64 0, .int .i64 0] 60 (by simp)).alloc (.cells #[.int .i64 b0, .int .i64 b1, .int .i64 0, .int .i64 0, .int .i64 0, .int .i64 0, .int .i64 0, .int .i64 0, .int .i64 0] 60)).drew).below k1
 clear k1
 have c0 : W1.cell? ⟨w.heap.size + 1, 0, none⟩ = some (.int .i64 0) := R1.c 0 (zD rfl)
 have f0 := R1.f 0 (zD rfl)
 have c1 : W1.cell? ⟨w.heap.size + 1, 1, none⟩ = some (.int .i64 0) := R1.c 1 (zD rfl)
 have f1 := R1.f 1 (zD rfl)
 have c2 : W1.cell? ⟨w.heap.size + 1, 2, none⟩ = some (.int .i64 0) := R1.c 2 (zD rfl)
 have f2 := R1.f 2 (zD rfl)
 have c3 : W1.cell? ⟨w.heap.size + 1, 3, none⟩ = some (.int .i64 0) := R1.c 3 (zD rfl)
 have f3 := R1.f 3 (zD rfl)
 have c4 : W1.cell? ⟨w.heap.size + 1, 4, none⟩ = some (.int .i64 0) := R1.c 4 (zD rfl)
 have f4 := R1.f 4 (zD rfl)
 have c5 : W1.cell? ⟨w.heap.size + 1, 5, none⟩ = some (.int .i64 0) := R1.c 5 (zD rfl)
 have f5 := R1.f 5 (zD rfl)
 have c6 : W1.cell? ⟨w.heap.size + 1, 6, none⟩ = some (.int .i64 0) := R1.c 6 (zD rfl)
 have f6 := R1.f 6 (zD rfl)
 have c7 : W1.cell? ⟨w.heap.size + 1, 7, none⟩ = some (.int .i64 0) := R1.c 7 (zD rfl)
 have f7 := R1.f 7 (zD rfl)
 have c8 : W1.cell? ⟨w.heap.size + 1, 8, none⟩ = some (.int .i64 0) := R1.c 8 (zD rfl)
 have f8 := R1.f 8 (zD rfl)
 go_wp2_with (with_reducible refine post_stop ?_)
 have D := (((((((((R1.put 0 (zD rfl) (.int .i64 b0) [(.int .i64 b0), (.int .i64 0), (.int .i64 0), (.int .i64 0), (.int .i64 0), (.int .i64 0), (.int .i64 0), (.int .i64 0), (.int .i64 0)] rfl).put 1 (zD rfl) (.int .i64 0) [(.int .i64 b0), (.int .i64 0), (.int .i64 0), (.int .i64 0), (.int .i64 0), (.int .i64 0), (.int .i64 0), (.int .i64 0), (.int .i64 0)] rfl).put 2 (zD rfl) (.int .i64 0) [(.int .i64 b0), (.int .i64 0), (.int .i64 0), (.int .i64 0), (.int .i64 0), (.int .i64 0), (.int .i64 0), (.int .i64 0), (.int .i64 0)] rfl).put 3 (zD rfl) (.int .i64 0) [(.int .i64 b0), (.int .i64 0), (.int .i64 0), (.int .i64 0), (.int .i64 0), (.int .i64 0), (.int .i64 0), (.int .i64 0), (.int .i64 0)] rfl).put 4 (zD rfl) (.int .i64 0) [(.int .i64 b0), (.int .i64 0), (.int .i64 0), (.int .i64 0), (.int .i64 0), (.int .i64 0), (.int .i64 0), (.int .i64 0), (.int .i64 0)] rfl).put 5 (zD rfl) (.int .i64 0) [(.int .i64 b0), (.int .i64 0), (.int .i64 0), (.int .i64 0), (.int .i64 0), (.int .i64 0), (.int .i64 0), (.int .i64 0), (.int .i64 0)] rfl).put 6 (zD rfl) (.int .i64 0) [(.int .i64 b0), (.int .i64 0), (.int .i64 0), (.int .i64 0), (.int .i64 0), (.int .i64 0), (.int .i64 0), (.int .i64 0), (.int .i64 0)] rfl).put 7 (zD rfl) (.int .i64 0) [(.int .i64 b0), (.int .i64 0), (.int .i64 0), (.int .i64 0), (.int .i64 0), (.int .i64 0), (.int .i64 0), (.int .i64 0), (.int .i64 0)] rfl).put 8 (zD rfl) (.int .i64 0) [(.int .i64 b0), (.int .i64 0), (.int .i64 0), (.int .i64 0), (.int .i64 0), (.int .i64 0), (.int .i64 0), (.int .i64 0), (.int .i64 0)] rfl)
 have d0 := D.c 0 (zD rfl)
 have d1 := D.c 1 (zD rfl)
 have d2 := D.c 2 (zD rfl)
 have d3 := D.c 3 (zD rfl)
 have d4 := D.c 4 (zD rfl)
 have d5 := D.c 5 (zD rfl)
 have d6 := D.c 6 (zD rfl)
 have d7 := D.c 7 (zD rfl)
 have d8 := D.c 8 (zD rfl)
 simp only [List.getElem_cons_zero, List.getElem_cons_succ] at d0 d1 d2 d3 d4 d5 d6 d7 d8
 exact ⟨bodyPost_ret (v := .tuple #[.agg #[.int .i64 b0, .int .i64 0, .int .i64 0, .int .i64 0, .int .i64 0, .int .i64 0, .int .i64 0, .int .i64 0, .int .i64 0], .int .i64 1]) (by simp [results_cell_tmp Tryz.results71, asAddr, go_sem, d0, d1, d2, d3, d4, d5, d6, d7, d8]) rfl ⟨rfl, (bel_new (bel_new (bel_new (bel_new (bel_new (bel_new (bel_new (bel_new (bel_new L1 _ _ (by omega) _) _ _ (by omega) _) _ _ (by omega) _) _ _ (by omega) _) _ _ (by omega) _) _ _ (by omega) _) _ _ (by omega) _) _ _ (by omega) _) _ _ (by omega) _)⟩⟩
theorem oread_code (s : ByteArray) (w : World) (h : 2 ≤ s.size) (hz : sizeS (bt s 1 : Nat) = 0) :
    Calls Tryz.prog 71 #[.agg #[.int .i64 16, .string s]] w fun e w' => e = .returned (.tuple #[.agg #[.int .i64 (bt s 0 : Nat), .int .i64 0, .int .i64 0, .int .i64 0, .int .i64 0, .int .i64 0, .int .i64 0, .int .i64 0, .int .i64 0], .int .i64 2]) ∧ Below w.heap.size w w' := by
 have i0 := idx_run (s := s) (i := 0) (n := 0) (by omega) rfl
 have i1 := idx_run (s := s) (i := 1) (n := 1) (by omega) rfl
 have r0 := bt_lt s 0
 have r1 := bt_lt s 1
 have hs := sizeOf_any (bt s 1 : Nat)
 rw [hz] at hs
 clear hz
 generalize bt s 0 = b0 at *
 generalize bt s 1 = b1 at *
 go_enter Tryz.func71, Tryz.ntmps71
 go_wp2
 go_region
 go_wp2_with fail
 refine (hs _).mono ?_
 rintro e X ⟨rfl, rfl⟩
 go_wp2_with fail
 refine (refused_any b0 b1 z7 2 _).mono ?_
 rintro e W1 ⟨rfl, k1⟩
 have L1 := bel_then (bel_drew (bel_al (bel_al (bel_al (Below.refl _ w) (.cells #[.int .i64 16, .string s] 58)) (.cells #[.int .i64 0, .int .i64 0, .int .i64 0, .int .i64 0, .int .i64 0, .int .i64 0, .int .i64 0, .int .i64 0, .int .i64 0] 60)) (.cells #[.int .i64 b0, .int .i64 b1, .int .i64 0, .int .i64 0, .int .i64 0, .int .i64 0, .int .i64 0, .int .i64 0, .int .i64 0] 60))) k1
 have R1 := (((Arr_at (w.alloc (.cells #[.int .i64 16, .string s] 58)) (w.heap.size + 1) [.int .i64 0, .int .i64 0, .int .i64 0, .int .i64 0, .int .i64 0, .int .i64 0, .int .i64 0, .int .i64 0, .int .i64 0] 60 (by simp)).alloc (.cells #[.int .i64 b0, .int .i64 b1, .int .i64 0, .int .i64 0, .int .i64 0, .int .i64 0, .int .i64 0, .int .i64 0, .int .i64 0] 60)).drew).below k1
 clear k1
 have c0 : W1.cell? ⟨w.heap.size + 1, 0, none⟩ = some (.int .i64 0) := R1.c 0 (zD rfl)
 have f0 := R1.f 0 (zD rfl)
 have c1 : W1.cell? ⟨w.heap.size + 1, 1, none⟩ = some (.int .i64 0) := R1.c 1 (zD rfl)
 have f1 := R1.f 1 (zD rfl)
 have c2 : W1.cell? ⟨w.heap.size + 1, 2, none⟩ = some (.int .i64 0) := R1.c 2 (zD rfl)
 have f2 := R1.f 2 (zD rfl)
 have c3 : W1.cell? ⟨w.heap.size + 1, 3, none⟩ = some (.int .i64 0) := R1.c 3 (zD rfl)
 have f3 := R1.f 3 (zD rfl)
 have c4 : W1.cell? ⟨w.heap.size + 1, 4, none⟩ = some (.int .i64 0) := R1.c 4 (zD rfl)
 have f4 := R1.f 4 (zD rfl)
 have c5 : W1.cell? ⟨w.heap.size + 1, 5, none⟩ = some (.int .i64 0) := R1.c 5 (zD rfl)
 have f5 := R1.f 5 (zD rfl)
 have c6 : W1.cell? ⟨w.heap.size + 1, 6, none⟩ = some (.int .i64 0) := R1.c 6 (zD rfl)
 have f6 := R1.f 6 (zD rfl)
 have c7 : W1.cell? ⟨w.heap.size + 1, 7, none⟩ = some (.int .i64 0) := R1.c 7 (zD rfl)
 have f7 := R1.f 7 (zD rfl)
 have c8 : W1.cell? ⟨w.heap.size + 1, 8, none⟩ = some (.int .i64 0) := R1.c 8 (zD rfl)
 have f8 := R1.f 8 (zD rfl)
 go_wp2_with (with_reducible refine post_stop ?_)
 have D := (((((((((R1.put 0 (zD rfl) (.int .i64 b0) [(.int .i64 b0), (.int .i64 0), (.int .i64 0), (.int .i64 0), (.int .i64 0), (.int .i64 0), (.int .i64 0), (.int .i64 0), (.int .i64 0)] rfl).put 1 (zD rfl) (.int .i64 0) [(.int .i64 b0), (.int .i64 0), (.int .i64 0), (.int .i64 0), (.int .i64 0), (.int .i64 0), (.int .i64 0), (.int .i64 0), (.int .i64 0)] rfl).put 2 (zD rfl) (.int .i64 0) [(.int .i64 b0), (.int .i64 0), (.int .i64 0), (.int .i64 0), (.int .i64 0), (.int .i64 0), (.int .i64 0), (.int .i64 0), (.int .i64 0)] rfl).put 3 (zD rfl) (.int .i64 0) [(.int .i64 b0), (.int .i64 0), (.int .i64 0), (.int .i64 0), (.int .i64 0), (.int .i64 0), (.int .i64 0), (.int .i64 0), (.int .i64 0)] rfl).put 4 (zD rfl) (.int .i64 0) [(.int .i64 b0), (.int .i64 0), (.int .i64 0), (.int .i64 0), (.int .i64 0), (.int .i64 0), (.int .i64 0), (.int .i64 0), (.int .i64 0)] rfl).put 5 (zD rfl) (.int .i64 0) [(.int .i64 b0), (.int .i64 0), (.int .i64 0), (.int .i64 0), (.int .i64 0), (.int .i64 0), (.int .i64 0), (.int .i64 0), (.int .i64 0)] rfl).put 6 (zD rfl) (.int .i64 0) [(.int .i64 b0), (.int .i64 0), (.int .i64 0), (.int .i64 0), (.int .i64 0), (.int .i64 0), (.int .i64 0), (.int .i64 0), (.int .i64 0)] rfl).put 7 (zD rfl) (.int .i64 0) [(.int .i64 b0), (.int .i64 0), (.int .i64 0), (.int .i64 0), (.int .i64 0), (.int .i64 0), (.int .i64 0), (.int .i64 0), (.int .i64 0)] rfl).put 8 (zD rfl) (.int .i64 0) [(.int .i64 b0), (.int .i64 0), (.int .i64 0), (.int .i64 0), (.int .i64 0), (.int .i64 0), (.int .i64 0), (.int .i64 0), (.int .i64 0)] rfl)
 have d0 := D.c 0 (zD rfl)
 have d1 := D.c 1 (zD rfl)
 have d2 := D.c 2 (zD rfl)
 have d3 := D.c 3 (zD rfl)
 have d4 := D.c 4 (zD rfl)
 have d5 := D.c 5 (zD rfl)
 have d6 := D.c 6 (zD rfl)
 have d7 := D.c 7 (zD rfl)
 have d8 := D.c 8 (zD rfl)
 simp only [List.getElem_cons_zero, List.getElem_cons_succ] at d0 d1 d2 d3 d4 d5 d6 d7 d8
 exact ⟨bodyPost_ret (v := .tuple #[.agg #[.int .i64 b0, .int .i64 0, .int .i64 0, .int .i64 0, .int .i64 0, .int .i64 0, .int .i64 0, .int .i64 0, .int .i64 0], .int .i64 2]) (by simp [results_cell_tmp Tryz.results71, asAddr, go_sem, d0, d1, d2, d3, d4, d5, d6, d7, d8]) rfl ⟨rfl, (bel_new (bel_new (bel_new (bel_new (bel_new (bel_new (bel_new (bel_new (bel_new L1 _ _ (by omega) _) _ _ (by omega) _) _ _ (by omega) _) _ _ (by omega) _) _ _ (by omega) _) _ _ (by omega) _) _ _ (by omega) _) _ _ (by omega) _) _ _ (by omega) _)⟩⟩
theorem oread_len (s : ByteArray) (w : World) (h : 2 ≤ s.size) (hz : sizeS (bt s 1 : Nat) ≠ 0) (hl : (s.size : Int) ≠ sizeS (bt s 1 : Nat)) :
    Calls Tryz.prog 71 #[.agg #[.int .i64 16, .string s]] w fun e w' => e = .returned (.tuple #[.agg #[.int .i64 (bt s 0 : Nat), .int .i64 0, .int .i64 0, .int .i64 0, .int .i64 0, .int .i64 0, .int .i64 0, .int .i64 0, .int .i64 0], .int .i64 1]) ∧ Below w.heap.size w w' := by
 have i0 := idx_run (s := s) (i := 0) (n := 0) (by omega) rfl
 have i1 := idx_run (s := s) (i := 1) (n := 1) (by omega) rfl
 have r0 := bt_lt s 0
 have r1 := bt_lt s 1
 have hs := sizeOf_any (bt s 1 : Nat)
 generalize sizeS (bt s 1 : Nat) = z at *
 have hz' : (z == 0) = false := by simpa using hz
 have hl' : ((s.size : Int) != z) = true := by simpa using hl
 clear hz hl
 generalize bt s 0 = b0 at *
 generalize bt s 1 = b1 at *
 go_enter Tryz.func71, Tryz.ntmps71
 go_wp2
 go_region
 go_wp2_with fail
 refine (hs _).mono ?_
 rintro e X ⟨rfl, rfl⟩
 go_wp2_with fail
 refine (refused_any b0 b1 z7 1 _).mono ?_
 rintro e W1 ⟨rfl, k1⟩
 have L1 := bel_then (bel_drew (bel_al (bel_al (bel_al (Below.refl _ w) (.cells #[.int .i64 16, .string s] 58)) (.cells #[.int .i64 0, .int .i64 0, .int .i64 0, .int .i64 0, .int .i64 0, .int .i64 0, .int .i64 0, .int .i64 0, .int .i64 0] 60)) (.cells #[.int .i64 b0, .int .i64 b1, .int .i64 0, .int .i64 0, .int .i64 0, .int .i64 0, .int .i64 0, .int .i64 0, .int .i64 0] 60))) k1
 have R1 := (((Arr_at (w.alloc (.cells #[.int .i64 16, .string s] 58)) (w.heap.size + 1) [.int .i64 0, .int .i64 0, .int .i64 0, .int .i64 0, .int .i64 0, .int .i64 0, .int .i64 0, .int .i64 0, .int .i64 0] 60 (by simp)).alloc (.cells #[.int .i64 b0, .int .i64 b1, .int .i64 0, .int .i64 0, .int .i64 0, .int .i64 0, .int .i64 0, .int .i64 0, .int .i64 0] 60)).drew).below k1
 clear k1
 have c0 : W1.cell? ⟨w.heap.size + 1, 0, none⟩ = some (.int .i64 0) := R1.c 0 (zD rfl)
 have f0 := R1.f 0 (zD rfl)
 have c1 : W1.cell? ⟨w.heap.size + 1, 1, none⟩ = some (.int .i64 0) := R1.c 1 (zD rfl)
 have f1 := R1.f 1 (zD rfl)
 have c2 : W1.cell? ⟨w.heap.size + 1, 2, none⟩ = some (.int .i64 0) := R1.c 2 (zD rfl)
 have f2 := R1.f 2 (zD rfl)
 have c3 : W1.cell? ⟨w.heap.size + 1, 3, none⟩ = some (.int .i64 0) := R1.c 3 (zD rfl)
 have f3 := R1.f 3 (zD rfl)
 have c4 : W1.cell? ⟨w.heap.size + 1, 4, none⟩ = some (.int .i64 0) := R1.c 4 (zD rfl)
 have f4 := R1.f 4 (zD rfl)
 have c5 : W1.cell? ⟨w.heap.size + 1, 5, none⟩ = some (.int .i64 0) := R1.c 5 (zD rfl)
 have f5 := R1.f 5 (zD rfl)
 have c6 : W1.cell? ⟨w.heap.size + 1, 6, none⟩ = some (.int .i64 0) := R1.c 6 (zD rfl)
 have f6 := R1.f 6 (zD rfl)
 have c7 : W1.cell? ⟨w.heap.size + 1, 7, none⟩ = some (.int .i64 0) := R1.c 7 (zD rfl)
 have f7 := R1.f 7 (zD rfl)
 have c8 : W1.cell? ⟨w.heap.size + 1, 8, none⟩ = some (.int .i64 0) := R1.c 8 (zD rfl)
 have f8 := R1.f 8 (zD rfl)
 go_wp2_with (with_reducible refine post_stop ?_)
 have D := (((((((((R1.put 0 (zD rfl) (.int .i64 b0) [(.int .i64 b0), (.int .i64 0), (.int .i64 0), (.int .i64 0), (.int .i64 0), (.int .i64 0), (.int .i64 0), (.int .i64 0), (.int .i64 0)] rfl).put 1 (zD rfl) (.int .i64 0) [(.int .i64 b0), (.int .i64 0), (.int .i64 0), (.int .i64 0), (.int .i64 0), (.int .i64 0), (.int .i64 0), (.int .i64 0), (.int .i64 0)] rfl).put 2 (zD rfl) (.int .i64 0) [(.int .i64 b0), (.int .i64 0), (.int .i64 0), (.int .i64 0), (.int .i64 0), (.int .i64 0), (.int .i64 0), (.int .i64 0), (.int .i64 0)] rfl).put 3 (zD rfl) (.int .i64 0) [(.int .i64 b0), (.int .i64 0), (.int .i64 0), (.int .i64 0), (.int .i64 0), (.int .i64 0), (.int .i64 0), (.int .i64 0), (.int .i64 0)] rfl).put 4 (zD rfl) (.int .i64 0) [(.int .i64 b0), (.int .i64 0), (.int .i64 0), (.int .i64 0), (.int .i64 0), (.int .i64 0), (.int .i64 0), (.int .i64 0), (.int .i64 0)] rfl).put 5 (zD rfl) (.int .i64 0) [(.int .i64 b0), (.int .i64 0), (.int .i64 0), (.int .i64 0), (.int .i64 0), (.int .i64 0), (.int .i64 0), (.int .i64 0), (.int .i64 0)] rfl).put 6 (zD rfl) (.int .i64 0) [(.int .i64 b0), (.int .i64 0), (.int .i64 0), (.int .i64 0), (.int .i64 0), (.int .i64 0), (.int .i64 0), (.int .i64 0), (.int .i64 0)] rfl).put 7 (zD rfl) (.int .i64 0) [(.int .i64 b0), (.int .i64 0), (.int .i64 0), (.int .i64 0), (.int .i64 0), (.int .i64 0), (.int .i64 0), (.int .i64 0), (.int .i64 0)] rfl).put 8 (zD rfl) (.int .i64 0) [(.int .i64 b0), (.int .i64 0), (.int .i64 0), (.int .i64 0), (.int .i64 0), (.int .i64 0), (.int .i64 0), (.int .i64 0), (.int .i64 0)] rfl)
 have d0 := D.c 0 (zD rfl)
 have d1 := D.c 1 (zD rfl)
 have d2 := D.c 2 (zD rfl)
 have d3 := D.c 3 (zD rfl)
 have d4 := D.c 4 (zD rfl)
 have d5 := D.c 5 (zD rfl)
 have d6 := D.c 6 (zD rfl)
 have d7 := D.c 7 (zD rfl)
 have d8 := D.c 8 (zD rfl)
 simp only [List.getElem_cons_zero, List.getElem_cons_succ] at d0 d1 d2 d3 d4 d5 d6 d7 d8
 exact ⟨bodyPost_ret (v := .tuple #[.agg #[.int .i64 b0, .int .i64 0, .int .i64 0, .int .i64 0, .int .i64 0, .int .i64 0, .int .i64 0, .int .i64 0, .int .i64 0], .int .i64 1]) (by simp [results_cell_tmp Tryz.results71, asAddr, go_sem, d0, d1, d2, d3, d4, d5, d6, d7, d8]) rfl ⟨rfl, (bel_new (bel_new (bel_new (bel_new (bel_new (bel_new (bel_new (bel_new (bel_new L1 _ _ (by omega) _) _ _ (by omega) _) _ _ (by omega) _) _ _ (by omega) _) _ _ (by omega) _) _ _ (by omega) _) _ _ (by omega) _) _ _ (by omega) _) _ _ (by omega) _)⟩⟩
theorem oread_short (s : ByteArray) (w : World) (h : s.size = 2) (hz : sizeS (bt s 1 : Nat) = 2) (h3 : bt s 1 ≠ 3) :
    Calls Tryz.prog 71 #[.agg #[.int .i64 16, .string s]] w fun e w' => e = .returned (.tuple #[.agg #[.int .i64 (bt s 0 : Nat), .int .i64 (bt s 1 : Nat), .int .i64 0, .int .i64 0, .int .i64 0, .int .i64 0, .int .i64 0, .int .i64 0, .int .i64 0], .int .i64 0]) ∧ Below w.heap.size w w' := by
 have i0 := idx_run (s := s) (i := 0) (n := 0) (by omega) rfl
 have i1 := idx_run (s := s) (i := 1) (n := 1) (by omega) rfl
 have r0 := bt_lt s 0
 have r1 := bt_lt s 1
 have hs := sizeOf_any (bt s 1 : Nat)
 rw [hz] at hs
 clear hz
 have h3' : (((bt s 1 : Nat) : Int) != 3) = true := by simp; omega
 have hl' : ((s.size : Int) != 2) = false := by simp; omega
 generalize bt s 0 = b0 at *
 generalize bt s 1 = b1 at *
 go_enter Tryz.func71, Tryz.ntmps71
 go_wp2
 go_region
 go_wp2_with fail
 refine (hs _).mono ?_
 rintro e X ⟨rfl, rfl⟩
 go_wp2_with (with_reducible refine post_stop ?_)
 exact ⟨bodyPost_ret (v := .tuple #[.agg #[.int .i64 b0, .int .i64 b1, .int .i64 0, .int .i64 0, .int .i64 0, .int .i64 0, .int .i64 0, .int .i64 0, .int .i64 0], .int .i64 0]) (by simp [results_cell_tmp Tryz.results71, asAddr, go_sem]) rfl ⟨rfl, bel_drew (bel_al (bel_al (bel_al (Below.refl _ w) _) _) _)⟩⟩
end Go.Proofs.YtlpkfmfblglceaaGreatDoor
namespace Go.Proofs.YtlpkfmfblglceaaGreatDoor
open Go.RowKit
set_option maxRecDepth 100000
set_option maxHeartbeats 20000000
theorem oread_long (s : ByteArray) (w : World) (h : s.size = 58) (h3 : bt s 1 = 3) (hR : oRightC (ordE s) = true) :
    Calls Tryz.prog 71 #[.agg #[.int .i64 16, .string s]] w fun e w' => e = .returned (.tuple #[.agg #[.int .i64 (bt s 0 : Nat), .int .i64 3, .int .i64 (onumS s 2), .int .i64 (onumS s 10), .int .i64 (onumS s 18), .int .i64 (onumS s 26), .int .i64 (onumS s 34), .int .i64 (onumS s 42), .int .i64 (onumS s 50)], .int .i64 0]) ∧ Below w.heap.size w w' := by
 have i0 := idx_run (s := s) (i := 0) (n := 0) (by omega) rfl
 have i1 : ∀ W : World, (Instr.index 9 (.string s) (.int .i64 1)).run Tryz.prog W = .ok (.int .u8 3) W := fun W => by have := idx_run (s := s) (i := 1) (n := 1) (by omega) rfl W; rw [h3] at this; exact this
 have r0 := bt_lt s 0
 have hs := sizeOf_any 3
 rw [show sizeS 3 = 58 from rfl] at hs
 have hl' : ((s.size : Int) != 58) = false := by simp; omega
 have he := fun W => elements_any (s.extract 2 s.size) W (by rw [ByteArray.size_extract]; omega)
 simp only [numS_tail, Nat.reduceAdd] at he
 have hr := oRightC_any (ordE s)
 rw [hR] at hr
 unfold ordE at hr
 dsimp only at hr
 have hsl : ∀ W : World, (Instr.slice 9 (.string s) (some (.int .i64 2)) none none).run Tryz.prog W = .ok (.string (s.extract 2 s.size)) W := fun W => by
  rw [run_slice_string_from_if W 9 s .i64 2 Tryz.underlying9, if_pos (by omega)]
  rfl
 generalize s.extract 2 s.size = y at *
 clear h3 hR
 generalize onumS s 2 = e0 at *
 generalize onumS s 10 = e1 at *
 generalize onumS s 18 = e2 at *
 generalize onumS s 26 = e3 at *
 generalize onumS s 34 = e4 at *
 generalize onumS s 42 = e5 at *
 generalize onumS s 50 = e6 at *
 generalize bt s 0 = b0 at *
 go_enter Tryz.func71, Tryz.ntmps71
 go_wp2
 go_region
 go_wp2_with fail
 refine (hs _).mono ?_
 rintro e X ⟨rfl, rfl⟩
 go_wp2_with fail
 refine (he _).mono ?_
 rintro e W1 ⟨rfl, k1⟩
 have L1 := bel_then (bel_drew (bel_al (bel_al (bel_al (Below.refl _ w) (.cells #[.int .i64 16, .string s] 58)) (.cells #[.int .i64 0, .int .i64 0, .int .i64 0, .int .i64 0, .int .i64 0, .int .i64 0, .int .i64 0, .int .i64 0, .int .i64 0] 60)) (.cells #[.int .i64 b0, .int .i64 3, .int .i64 0, .int .i64 0, .int .i64 0, .int .i64 0, .int .i64 0, .int .i64 0, .int .i64 0] 60))) k1
 have R1 := (((Arr_at (w.alloc (.cells #[.int .i64 16, .string s] 58)) (w.heap.size + 1) [.int .i64 0, .int .i64 0, .int .i64 0, .int .i64 0, .int .i64 0, .int .i64 0, .int .i64 0, .int .i64 0, .int .i64 0] 60 (by simp)).alloc (.cells #[.int .i64 b0, .int .i64 3, .int .i64 0, .int .i64 0, .int .i64 0, .int .i64 0, .int .i64 0, .int .i64 0, .int .i64 0] 60)).drew).below k1
 have O1 := (((Arr_at ((w.alloc (.cells #[.int .i64 16, .string s] 58)).alloc (.cells #[.int .i64 0, .int .i64 0, .int .i64 0, .int .i64 0, .int .i64 0, .int .i64 0, .int .i64 0, .int .i64 0, .int .i64 0] 60)) (w.heap.size + 1 + 1) [.int .i64 b0, .int .i64 3, .int .i64 0, .int .i64 0, .int .i64 0, .int .i64 0, .int .i64 0, .int .i64 0, .int .i64 0] 60 (by simp))).drew).below k1
 clear k1
 have z1 := O1.lies
 have g0 := O1.f 0 (zD rfl)
 have a0 : W1.cell? ⟨w.heap.size + 1 + 1, 0, none⟩ = some (.int .i64 b0) := O1.c 0 (zD rfl)
 have g1 := O1.f 1 (zD rfl)
 have a1 : W1.cell? ⟨w.heap.size + 1 + 1, 1, none⟩ = some (.int .i64 3) := O1.c 1 (zD rfl)
 have g2 := O1.f 2 (zD rfl)
 have a2 : W1.cell? ⟨w.heap.size + 1 + 1, 2, none⟩ = some (.int .i64 0) := O1.c 2 (zD rfl)
 have g3 := O1.f 3 (zD rfl)
 have a3 : W1.cell? ⟨w.heap.size + 1 + 1, 3, none⟩ = some (.int .i64 0) := O1.c 3 (zD rfl)
 have g4 := O1.f 4 (zD rfl)
 have a4 : W1.cell? ⟨w.heap.size + 1 + 1, 4, none⟩ = some (.int .i64 0) := O1.c 4 (zD rfl)
 have g5 := O1.f 5 (zD rfl)
 have a5 : W1.cell? ⟨w.heap.size + 1 + 1, 5, none⟩ = some (.int .i64 0) := O1.c 5 (zD rfl)
 have g6 := O1.f 6 (zD rfl)
 have a6 : W1.cell? ⟨w.heap.size + 1 + 1, 6, none⟩ = some (.int .i64 0) := O1.c 6 (zD rfl)
 have g7 := O1.f 7 (zD rfl)
 have a7 : W1.cell? ⟨w.heap.size + 1 + 1, 7, none⟩ = some (.int .i64 0) := O1.c 7 (zD rfl)
 have g8 := O1.f 8 (zD rfl)
 have a8 : W1.cell? ⟨w.heap.size + 1 + 1, 8, none⟩ = some (.int .i64 0) := O1.c 8 (zD rfl)
 go_wp2_with fail
 refine (hr _).mono ?_
 rintro e W2 ⟨rfl, k2⟩
 have O2 := (((((((O1.put 2 (zD rfl) (.int .i64 e0) [(.int .i64 b0), (.int .i64 3), (.int .i64 e0), (.int .i64 0), (.int .i64 0), (.int .i64 0), (.int .i64 0), (.int .i64 0), (.int .i64 0)] rfl).put 3 (zD rfl) (.int .i64 e1) [(.int .i64 b0), (.int .i64 3), (.int .i64 e0), (.int .i64 e1), (.int .i64 0), (.int .i64 0), (.int .i64 0), (.int .i64 0), (.int .i64 0)] rfl).put 4 (zD rfl) (.int .i64 e2) [(.int .i64 b0), (.int .i64 3), (.int .i64 e0), (.int .i64 e1), (.int .i64 e2), (.int .i64 0), (.int .i64 0), (.int .i64 0), (.int .i64 0)] rfl).put 5 (zD rfl) (.int .i64 e3) [(.int .i64 b0), (.int .i64 3), (.int .i64 e0), (.int .i64 e1), (.int .i64 e2), (.int .i64 e3), (.int .i64 0), (.int .i64 0), (.int .i64 0)] rfl).put 6 (zD rfl) (.int .i64 e4) [(.int .i64 b0), (.int .i64 3), (.int .i64 e0), (.int .i64 e1), (.int .i64 e2), (.int .i64 e3), (.int .i64 e4), (.int .i64 0), (.int .i64 0)] rfl).put 7 (zD rfl) (.int .i64 e5) [(.int .i64 b0), (.int .i64 3), (.int .i64 e0), (.int .i64 e1), (.int .i64 e2), (.int .i64 e3), (.int .i64 e4), (.int .i64 e5), (.int .i64 0)] rfl).put 8 (zD rfl) (.int .i64 e6) [(.int .i64 b0), (.int .i64 3), (.int .i64 e0), (.int .i64 e1), (.int .i64 e2), (.int .i64 e3), (.int .i64 e4), (.int .i64 e5), (.int .i64 e6)] rfl).below k2
 have R2 := (((((((R1.new (w.heap.size + 1 + 1) 2 (by omega) (.int .i64 e0)).new (w.heap.size + 1 + 1) 3 (by omega) (.int .i64 e1)).new (w.heap.size + 1 + 1) 4 (by omega) (.int .i64 e2)).new (w.heap.size + 1 + 1) 5 (by omega) (.int .i64 e3)).new (w.heap.size + 1 + 1) 6 (by omega) (.int .i64 e4)).new (w.heap.size + 1 + 1) 7 (by omega) (.int .i64 e5)).new (w.heap.size + 1 + 1) 8 (by omega) (.int .i64 e6)).below k2
 have L2 := bel_then (bel_new (bel_new (bel_new (bel_new (bel_new (bel_new (bel_new L1 (w.heap.size + 1 + 1) 2 (by omega) (.int .i64 e0)) (w.heap.size + 1 + 1) 3 (by omega) (.int .i64 e1)) (w.heap.size + 1 + 1) 4 (by omega) (.int .i64 e2)) (w.heap.size + 1 + 1) 5 (by omega) (.int .i64 e3)) (w.heap.size + 1 + 1) 6 (by omega) (.int .i64 e4)) (w.heap.size + 1 + 1) 7 (by omega) (.int .i64 e5)) (w.heap.size + 1 + 1) 8 (by omega) (.int .i64 e6)) k2
 clear k2 a0 g0 a1 g1 a2 g2 a3 g3 a4 g4 a5 g5 a6 g6 a7 g7 a8 g8 O1 R1 L1 z1
 have z2 := O2.lies
 have a0 : W2.cell? ⟨w.heap.size + 1 + 1, 0, none⟩ = some (.int .i64 b0) := O2.c 0 (zD rfl)
 have a1 : W2.cell? ⟨w.heap.size + 1 + 1, 1, none⟩ = some (.int .i64 3) := O2.c 1 (zD rfl)
 have a2 : W2.cell? ⟨w.heap.size + 1 + 1, 2, none⟩ = some (.int .i64 e0) := O2.c 2 (zD rfl)
 have a3 : W2.cell? ⟨w.heap.size + 1 + 1, 3, none⟩ = some (.int .i64 e1) := O2.c 3 (zD rfl)
 have a4 : W2.cell? ⟨w.heap.size + 1 + 1, 4, none⟩ = some (.int .i64 e2) := O2.c 4 (zD rfl)
 have a5 : W2.cell? ⟨w.heap.size + 1 + 1, 5, none⟩ = some (.int .i64 e3) := O2.c 5 (zD rfl)
 have a6 : W2.cell? ⟨w.heap.size + 1 + 1, 6, none⟩ = some (.int .i64 e4) := O2.c 6 (zD rfl)
 have a7 : W2.cell? ⟨w.heap.size + 1 + 1, 7, none⟩ = some (.int .i64 e5) := O2.c 7 (zD rfl)
 have a8 : W2.cell? ⟨w.heap.size + 1 + 1, 8, none⟩ = some (.int .i64 e6) := O2.c 8 (zD rfl)
 have c0 : W2.cell? ⟨w.heap.size + 1, 0, none⟩ = some (.int .i64 0) := R2.c 0 (zD rfl)
 have f0 := R2.f 0 (zD rfl)
 have c1 : W2.cell? ⟨w.heap.size + 1, 1, none⟩ = some (.int .i64 0) := R2.c 1 (zD rfl)
 have f1 := R2.f 1 (zD rfl)
 have c2 : W2.cell? ⟨w.heap.size + 1, 2, none⟩ = some (.int .i64 0) := R2.c 2 (zD rfl)
 have f2 := R2.f 2 (zD rfl)
 have c3 : W2.cell? ⟨w.heap.size + 1, 3, none⟩ = some (.int .i64 0) := R2.c 3 (zD rfl)
 have f3 := R2.f 3 (zD rfl)
 have c4 : W2.cell? ⟨w.heap.size + 1, 4, none⟩ = some (.int .i64 0) := R2.c 4 (zD rfl)
 have f4 := R2.f 4 (zD rfl)
 have c5 : W2.cell? ⟨w.heap.size + 1, 5, none⟩ = some (.int .i64 0) := R2.c 5 (zD rfl)
 have f5 := R2.f 5 (zD rfl)
 have c6 : W2.cell? ⟨w.heap.size + 1, 6, none⟩ = some (.int .i64 0) := R2.c 6 (zD rfl)
 have f6 := R2.f 6 (zD rfl)
 have c7 : W2.cell? ⟨w.heap.size + 1, 7, none⟩ = some (.int .i64 0) := R2.c 7 (zD rfl)
 have f7 := R2.f 7 (zD rfl)
 have c8 : W2.cell? ⟨w.heap.size + 1, 8, none⟩ = some (.int .i64 0) := R2.c 8 (zD rfl)
 have f8 := R2.f 8 (zD rfl)
 go_wp2_with (with_reducible refine post_stop ?_)
 have D := (((((((((R2.put 0 (zD rfl) (.int .i64 b0) [(.int .i64 b0), (.int .i64 0), (.int .i64 0), (.int .i64 0), (.int .i64 0), (.int .i64 0), (.int .i64 0), (.int .i64 0), (.int .i64 0)] rfl).put 1 (zD rfl) (.int .i64 3) [(.int .i64 b0), (.int .i64 3), (.int .i64 0), (.int .i64 0), (.int .i64 0), (.int .i64 0), (.int .i64 0), (.int .i64 0), (.int .i64 0)] rfl).put 2 (zD rfl) (.int .i64 e0) [(.int .i64 b0), (.int .i64 3), (.int .i64 e0), (.int .i64 0), (.int .i64 0), (.int .i64 0), (.int .i64 0), (.int .i64 0), (.int .i64 0)] rfl).put 3 (zD rfl) (.int .i64 e1) [(.int .i64 b0), (.int .i64 3), (.int .i64 e0), (.int .i64 e1), (.int .i64 0), (.int .i64 0), (.int .i64 0), (.int .i64 0), (.int .i64 0)] rfl).put 4 (zD rfl) (.int .i64 e2) [(.int .i64 b0), (.int .i64 3), (.int .i64 e0), (.int .i64 e1), (.int .i64 e2), (.int .i64 0), (.int .i64 0), (.int .i64 0), (.int .i64 0)] rfl).put 5 (zD rfl) (.int .i64 e3) [(.int .i64 b0), (.int .i64 3), (.int .i64 e0), (.int .i64 e1), (.int .i64 e2), (.int .i64 e3), (.int .i64 0), (.int .i64 0), (.int .i64 0)] rfl).put 6 (zD rfl) (.int .i64 e4) [(.int .i64 b0), (.int .i64 3), (.int .i64 e0), (.int .i64 e1), (.int .i64 e2), (.int .i64 e3), (.int .i64 e4), (.int .i64 0), (.int .i64 0)] rfl).put 7 (zD rfl) (.int .i64 e5) [(.int .i64 b0), (.int .i64 3), (.int .i64 e0), (.int .i64 e1), (.int .i64 e2), (.int .i64 e3), (.int .i64 e4), (.int .i64 e5), (.int .i64 0)] rfl).put 8 (zD rfl) (.int .i64 e6) [(.int .i64 b0), (.int .i64 3), (.int .i64 e0), (.int .i64 e1), (.int .i64 e2), (.int .i64 e3), (.int .i64 e4), (.int .i64 e5), (.int .i64 e6)] rfl)
 have d0 := D.c 0 (zD rfl)
 have d1 := D.c 1 (zD rfl)
 have d2 := D.c 2 (zD rfl)
 have d3 := D.c 3 (zD rfl)
 have d4 := D.c 4 (zD rfl)
 have d5 := D.c 5 (zD rfl)
 have d6 := D.c 6 (zD rfl)
 have d7 := D.c 7 (zD rfl)
 have d8 := D.c 8 (zD rfl)
 simp only [List.getElem_cons_zero, List.getElem_cons_succ] at d0 d1 d2 d3 d4 d5 d6 d7 d8
 exact ⟨bodyPost_ret (v := .tuple #[.agg #[.int .i64 b0, .int .i64 3, .int .i64 e0, .int .i64 e1, .int .i64 e2, .int .i64 e3, .int .i64 e4, .int .i64 e5, .int .i64 e6], .int .i64 0]) (by simp [results_cell_tmp Tryz.results71, asAddr, go_sem, d0, d1, d2, d3, d4, d5, d6, d7, d8]) rfl ⟨rfl, (bel_new (bel_new (bel_new (bel_new (bel_new (bel_new (bel_new (bel_new (bel_new L2 _ _ (by omega) _) _ _ (by omega) _) _ _ (by omega) _) _ _ (by omega) _) _ _ (by omega) _) _ _ (by omega) _) _ _ (by omega) _) _ _ (by omega) _) _ _ (by omega) _)⟩⟩
end Go.Proofs.YtlpkfmfblglceaaGreatDoor
namespace Go.Proofs.YtlpkfmfblglceaaGreatDoor
open Go.RowKit
set_option maxRecDepth 100000
set_option maxHeartbeats 20000000
theorem oread_not (s : ByteArray) (w : World) (h : s.size = 58) (h3 : bt s 1 = 3) (hR : oRightC (ordE s) = false) :
    Calls Tryz.prog 71 #[.agg #[.int .i64 16, .string s]] w fun e w' => e = .returned (.tuple #[.agg #[.int .i64 (bt s 0 : Nat), .int .i64 0, .int .i64 0, .int .i64 0, .int .i64 0, .int .i64 0, .int .i64 0, .int .i64 0, .int .i64 0], .int .i64 3]) ∧ Below w.heap.size w w' := by
 have i0 := idx_run (s := s) (i := 0) (n := 0) (by omega) rfl
 have i1 : ∀ W : World, (Instr.index 9 (.string s) (.int .i64 1)).run Tryz.prog W = .ok (.int .u8 3) W := fun W => by have := idx_run (s := s) (i := 1) (n := 1) (by omega) rfl W; rw [h3] at this; exact this
 have r0 := bt_lt s 0
 have hs := sizeOf_any 3
 rw [show sizeS 3 = 58 from rfl] at hs
 have hl' : ((s.size : Int) != 58) = false := by simp; omega
 have he := fun W => elements_any (s.extract 2 s.size) W (by rw [ByteArray.size_extract]; omega)
 simp only [numS_tail, Nat.reduceAdd] at he
 have hr := oRightC_any (ordE s)
 rw [hR] at hr
 unfold ordE at hr
 dsimp only at hr
 have hsl : ∀ W : World, (Instr.slice 9 (.string s) (some (.int .i64 2)) none none).run Tryz.prog W = .ok (.string (s.extract 2 s.size)) W := fun W => by
  rw [run_slice_string_from_if W 9 s .i64 2 Tryz.underlying9, if_pos (by omega)]
  rfl
 generalize s.extract 2 s.size = y at *
 clear h3 hR
 generalize onumS s 2 = e0 at *
 generalize onumS s 10 = e1 at *
 generalize onumS s 18 = e2 at *
 generalize onumS s 26 = e3 at *
 generalize onumS s 34 = e4 at *
 generalize onumS s 42 = e5 at *
 generalize onumS s 50 = e6 at *
 generalize bt s 0 = b0 at *
 go_enter Tryz.func71, Tryz.ntmps71
 go_wp2
 go_region
 go_wp2_with fail
 refine (hs _).mono ?_
 rintro e X ⟨rfl, rfl⟩
 go_wp2_with fail
 refine (he _).mono ?_
 rintro e W1 ⟨rfl, k1⟩
 have L1 := bel_then (bel_drew (bel_al (bel_al (bel_al (Below.refl _ w) (.cells #[.int .i64 16, .string s] 58)) (.cells #[.int .i64 0, .int .i64 0, .int .i64 0, .int .i64 0, .int .i64 0, .int .i64 0, .int .i64 0, .int .i64 0, .int .i64 0] 60)) (.cells #[.int .i64 b0, .int .i64 3, .int .i64 0, .int .i64 0, .int .i64 0, .int .i64 0, .int .i64 0, .int .i64 0, .int .i64 0] 60))) k1
 have R1 := (((Arr_at (w.alloc (.cells #[.int .i64 16, .string s] 58)) (w.heap.size + 1) [.int .i64 0, .int .i64 0, .int .i64 0, .int .i64 0, .int .i64 0, .int .i64 0, .int .i64 0, .int .i64 0, .int .i64 0] 60 (by simp)).alloc (.cells #[.int .i64 b0, .int .i64 3, .int .i64 0, .int .i64 0, .int .i64 0, .int .i64 0, .int .i64 0, .int .i64 0, .int .i64 0] 60)).drew).below k1
 have O1 := (((Arr_at ((w.alloc (.cells #[.int .i64 16, .string s] 58)).alloc (.cells #[.int .i64 0, .int .i64 0, .int .i64 0, .int .i64 0, .int .i64 0, .int .i64 0, .int .i64 0, .int .i64 0, .int .i64 0] 60)) (w.heap.size + 1 + 1) [.int .i64 b0, .int .i64 3, .int .i64 0, .int .i64 0, .int .i64 0, .int .i64 0, .int .i64 0, .int .i64 0, .int .i64 0] 60 (by simp))).drew).below k1
 clear k1
 have z1 := O1.lies
 have g0 := O1.f 0 (zD rfl)
 have a0 : W1.cell? ⟨w.heap.size + 1 + 1, 0, none⟩ = some (.int .i64 b0) := O1.c 0 (zD rfl)
 have g1 := O1.f 1 (zD rfl)
 have a1 : W1.cell? ⟨w.heap.size + 1 + 1, 1, none⟩ = some (.int .i64 3) := O1.c 1 (zD rfl)
 have g2 := O1.f 2 (zD rfl)
 have a2 : W1.cell? ⟨w.heap.size + 1 + 1, 2, none⟩ = some (.int .i64 0) := O1.c 2 (zD rfl)
 have g3 := O1.f 3 (zD rfl)
 have a3 : W1.cell? ⟨w.heap.size + 1 + 1, 3, none⟩ = some (.int .i64 0) := O1.c 3 (zD rfl)
 have g4 := O1.f 4 (zD rfl)
 have a4 : W1.cell? ⟨w.heap.size + 1 + 1, 4, none⟩ = some (.int .i64 0) := O1.c 4 (zD rfl)
 have g5 := O1.f 5 (zD rfl)
 have a5 : W1.cell? ⟨w.heap.size + 1 + 1, 5, none⟩ = some (.int .i64 0) := O1.c 5 (zD rfl)
 have g6 := O1.f 6 (zD rfl)
 have a6 : W1.cell? ⟨w.heap.size + 1 + 1, 6, none⟩ = some (.int .i64 0) := O1.c 6 (zD rfl)
 have g7 := O1.f 7 (zD rfl)
 have a7 : W1.cell? ⟨w.heap.size + 1 + 1, 7, none⟩ = some (.int .i64 0) := O1.c 7 (zD rfl)
 have g8 := O1.f 8 (zD rfl)
 have a8 : W1.cell? ⟨w.heap.size + 1 + 1, 8, none⟩ = some (.int .i64 0) := O1.c 8 (zD rfl)
 go_wp2_with fail
 refine (hr _).mono ?_
 rintro e W2 ⟨rfl, k2⟩
 have O2 := (((((((O1.put 2 (zD rfl) (.int .i64 e0) [(.int .i64 b0), (.int .i64 3), (.int .i64 e0), (.int .i64 0), (.int .i64 0), (.int .i64 0), (.int .i64 0), (.int .i64 0), (.int .i64 0)] rfl).put 3 (zD rfl) (.int .i64 e1) [(.int .i64 b0), (.int .i64 3), (.int .i64 e0), (.int .i64 e1), (.int .i64 0), (.int .i64 0), (.int .i64 0), (.int .i64 0), (.int .i64 0)] rfl).put 4 (zD rfl) (.int .i64 e2) [(.int .i64 b0), (.int .i64 3), (.int .i64 e0), (.int .i64 e1), (.int .i64 e2), (.int .i64 0), (.int .i64 0), (.int .i64 0), (.int .i64 0)] rfl).put 5 (zD rfl) (.int .i64 e3) [(.int .i64 b0), (.int .i64 3), (.int .i64 e0), (.int .i64 e1), (.int .i64 e2), (.int .i64 e3), (.int .i64 0), (.int .i64 0), (.int .i64 0)] rfl).put 6 (zD rfl) (.int .i64 e4) [(.int .i64 b0), (.int .i64 3), (.int .i64 e0), (.int .i64 e1), (.int .i64 e2), (.int .i64 e3), (.int .i64 e4), (.int .i64 0), (.int .i64 0)] rfl).put 7 (zD rfl) (.int .i64 e5) [(.int .i64 b0), (.int .i64 3), (.int .i64 e0), (.int .i64 e1), (.int .i64 e2), (.int .i64 e3), (.int .i64 e4), (.int .i64 e5), (.int .i64 0)] rfl).put 8 (zD rfl) (.int .i64 e6) [(.int .i64 b0), (.int .i64 3), (.int .i64 e0), (.int .i64 e1), (.int .i64 e2), (.int .i64 e3), (.int .i64 e4), (.int .i64 e5), (.int .i64 e6)] rfl).below k2
 have R2 := (((((((R1.new (w.heap.size + 1 + 1) 2 (by omega) (.int .i64 e0)).new (w.heap.size + 1 + 1) 3 (by omega) (.int .i64 e1)).new (w.heap.size + 1 + 1) 4 (by omega) (.int .i64 e2)).new (w.heap.size + 1 + 1) 5 (by omega) (.int .i64 e3)).new (w.heap.size + 1 + 1) 6 (by omega) (.int .i64 e4)).new (w.heap.size + 1 + 1) 7 (by omega) (.int .i64 e5)).new (w.heap.size + 1 + 1) 8 (by omega) (.int .i64 e6)).below k2
 have L2 := bel_then (bel_new (bel_new (bel_new (bel_new (bel_new (bel_new (bel_new L1 (w.heap.size + 1 + 1) 2 (by omega) (.int .i64 e0)) (w.heap.size + 1 + 1) 3 (by omega) (.int .i64 e1)) (w.heap.size + 1 + 1) 4 (by omega) (.int .i64 e2)) (w.heap.size + 1 + 1) 5 (by omega) (.int .i64 e3)) (w.heap.size + 1 + 1) 6 (by omega) (.int .i64 e4)) (w.heap.size + 1 + 1) 7 (by omega) (.int .i64 e5)) (w.heap.size + 1 + 1) 8 (by omega) (.int .i64 e6)) k2
 clear k2 a0 g0 a1 g1 a2 g2 a3 g3 a4 g4 a5 g5 a6 g6 a7 g7 a8 g8 O1 R1 L1 z1
 have z2 := O2.lies
 have a0 : W2.cell? ⟨w.heap.size + 1 + 1, 0, none⟩ = some (.int .i64 b0) := O2.c 0 (zD rfl)
 have a1 : W2.cell? ⟨w.heap.size + 1 + 1, 1, none⟩ = some (.int .i64 3) := O2.c 1 (zD rfl)
 have a2 : W2.cell? ⟨w.heap.size + 1 + 1, 2, none⟩ = some (.int .i64 e0) := O2.c 2 (zD rfl)
 have a3 : W2.cell? ⟨w.heap.size + 1 + 1, 3, none⟩ = some (.int .i64 e1) := O2.c 3 (zD rfl)
 have a4 : W2.cell? ⟨w.heap.size + 1 + 1, 4, none⟩ = some (.int .i64 e2) := O2.c 4 (zD rfl)
 have a5 : W2.cell? ⟨w.heap.size + 1 + 1, 5, none⟩ = some (.int .i64 e3) := O2.c 5 (zD rfl)
 have a6 : W2.cell? ⟨w.heap.size + 1 + 1, 6, none⟩ = some (.int .i64 e4) := O2.c 6 (zD rfl)
 have a7 : W2.cell? ⟨w.heap.size + 1 + 1, 7, none⟩ = some (.int .i64 e5) := O2.c 7 (zD rfl)
 have a8 : W2.cell? ⟨w.heap.size + 1 + 1, 8, none⟩ = some (.int .i64 e6) := O2.c 8 (zD rfl)
 go_wp2_with fail
 refine (refused_any b0 3 (e0, e1, e2, e3, e4, e5, e6) 3 _).mono ?_
 rintro e W3 ⟨rfl, k3⟩
 have L3 := bel_then L2 k3
 have R3 := R2.below k3
 clear k3 a0 a1 a2 a3 a4 a5 a6 a7 a8 L2 R2 O2
 have c0 : W3.cell? ⟨w.heap.size + 1, 0, none⟩ = some (.int .i64 0) := R3.c 0 (zD rfl)
 have f0 := R3.f 0 (zD rfl)
 have c1 : W3.cell? ⟨w.heap.size + 1, 1, none⟩ = some (.int .i64 0) := R3.c 1 (zD rfl)
 have f1 := R3.f 1 (zD rfl)
 have c2 : W3.cell? ⟨w.heap.size + 1, 2, none⟩ = some (.int .i64 0) := R3.c 2 (zD rfl)
 have f2 := R3.f 2 (zD rfl)
 have c3 : W3.cell? ⟨w.heap.size + 1, 3, none⟩ = some (.int .i64 0) := R3.c 3 (zD rfl)
 have f3 := R3.f 3 (zD rfl)
 have c4 : W3.cell? ⟨w.heap.size + 1, 4, none⟩ = some (.int .i64 0) := R3.c 4 (zD rfl)
 have f4 := R3.f 4 (zD rfl)
 have c5 : W3.cell? ⟨w.heap.size + 1, 5, none⟩ = some (.int .i64 0) := R3.c 5 (zD rfl)
 have f5 := R3.f 5 (zD rfl)
 have c6 : W3.cell? ⟨w.heap.size + 1, 6, none⟩ = some (.int .i64 0) := R3.c 6 (zD rfl)
 have f6 := R3.f 6 (zD rfl)
 have c7 : W3.cell? ⟨w.heap.size + 1, 7, none⟩ = some (.int .i64 0) := R3.c 7 (zD rfl)
 have f7 := R3.f 7 (zD rfl)
 have c8 : W3.cell? ⟨w.heap.size + 1, 8, none⟩ = some (.int .i64 0) := R3.c 8 (zD rfl)
 have f8 := R3.f 8 (zD rfl)
 go_wp2_with (with_reducible refine post_stop ?_)
 have D := (((((((((R3.put 0 (zD rfl) (.int .i64 b0) [(.int .i64 b0), (.int .i64 0), (.int .i64 0), (.int .i64 0), (.int .i64 0), (.int .i64 0), (.int .i64 0), (.int .i64 0), (.int .i64 0)] rfl).put 1 (zD rfl) (.int .i64 0) [(.int .i64 b0), (.int .i64 0), (.int .i64 0), (.int .i64 0), (.int .i64 0), (.int .i64 0), (.int .i64 0), (.int .i64 0), (.int .i64 0)] rfl).put 2 (zD rfl) (.int .i64 0) [(.int .i64 b0), (.int .i64 0), (.int .i64 0), (.int .i64 0), (.int .i64 0), (.int .i64 0), (.int .i64 0), (.int .i64 0), (.int .i64 0)] rfl).put 3 (zD rfl) (.int .i64 0) [(.int .i64 b0), (.int .i64 0), (.int .i64 0), (.int .i64 0), (.int .i64 0), (.int .i64 0), (.int .i64 0), (.int .i64 0), (.int .i64 0)] rfl).put 4 (zD rfl) (.int .i64 0) [(.int .i64 b0), (.int .i64 0), (.int .i64 0), (.int .i64 0), (.int .i64 0), (.int .i64 0), (.int .i64 0), (.int .i64 0), (.int .i64 0)] rfl).put 5 (zD rfl) (.int .i64 0) [(.int .i64 b0), (.int .i64 0), (.int .i64 0), (.int .i64 0), (.int .i64 0), (.int .i64 0), (.int .i64 0), (.int .i64 0), (.int .i64 0)] rfl).put 6 (zD rfl) (.int .i64 0) [(.int .i64 b0), (.int .i64 0), (.int .i64 0), (.int .i64 0), (.int .i64 0), (.int .i64 0), (.int .i64 0), (.int .i64 0), (.int .i64 0)] rfl).put 7 (zD rfl) (.int .i64 0) [(.int .i64 b0), (.int .i64 0), (.int .i64 0), (.int .i64 0), (.int .i64 0), (.int .i64 0), (.int .i64 0), (.int .i64 0), (.int .i64 0)] rfl).put 8 (zD rfl) (.int .i64 0) [(.int .i64 b0), (.int .i64 0), (.int .i64 0), (.int .i64 0), (.int .i64 0), (.int .i64 0), (.int .i64 0), (.int .i64 0), (.int .i64 0)] rfl)
 have d0 := D.c 0 (zD rfl)
 have d1 := D.c 1 (zD rfl)
 have d2 := D.c 2 (zD rfl)
 have d3 := D.c 3 (zD rfl)
 have d4 := D.c 4 (zD rfl)
 have d5 := D.c 5 (zD rfl)
 have d6 := D.c 6 (zD rfl)
 have d7 := D.c 7 (zD rfl)
 have d8 := D.c 8 (zD rfl)
 simp only [List.getElem_cons_zero, List.getElem_cons_succ] at d0 d1 d2 d3 d4 d5 d6 d7 d8
 exact ⟨bodyPost_ret (v := .tuple #[.agg #[.int .i64 b0, .int .i64 0, .int .i64 0, .int .i64 0, .int .i64 0, .int .i64 0, .int .i64 0, .int .i64 0, .int .i64 0], .int .i64 3]) (by simp [results_cell_tmp Tryz.results71, asAddr, go_sem, d0, d1, d2, d3, d4, d5, d6, d7, d8]) rfl ⟨rfl, (bel_new (bel_new (bel_new (bel_new (bel_new (bel_new (bel_new (bel_new (bel_new L3 _ _ (by omega) _) _ _ (by omega) _) _ _ (by omega) _) _ _ (by omega) _) _ _ (by omega) _) _ _ (by omega) _) _ _ (by omega) _) _ _ (by omega) _) _ _ (by omega) _)⟩⟩
end Go.Proofs.YtlpkfmfblglceaaGreatDoor
namespace Go.Proofs.YtlpkfmfblglceaaGreatDoor
open Go.RowKit
theorem size_one {x : Int} (h : sizeS x ≠ 0) : x = 1 ∨ x = 2 ∨ x = 3 ∨ x = 4 := by
 unfold sizeS at h
 split at h
 ·omega
 ·split at h <;> omega
theorem oread_any (k : Int) (s : ByteArray) (w : World) :
    Calls Tryz.prog 71 #[.agg #[.int .i64 k, .string s]] w fun e w' => e = .returned (.tuple #[.agg #[.int .i64 (ordR k s).1.1, .int .i64 (ordR k s).1.2.1, .int .i64 (ordR k s).1.2.2.1, .int .i64 (ordR k s).1.2.2.2.1, .int .i64 (ordR k s).1.2.2.2.2.1, .int .i64 (ordR k s).1.2.2.2.2.2.1, .int .i64 (ordR k s).1.2.2.2.2.2.2.1, .int .i64 (ordR k s).1.2.2.2.2.2.2.2.1, .int .i64 (ordR k s).1.2.2.2.2.2.2.2.2], .int .i64 (ordR k s).2]) ∧ Below w.heap.size w w' := by
 unfold ordR
 by_cases h : s.size < 2
 ·rw [if_pos h]
  exact oread_none k s w h
 rw [if_neg h]
 by_cases hk : k ≠ 16
 ·rw [if_pos hk]
  exact oread_kind k s w (by omega) hk
 rw [if_neg hk]
 obtain rfl : k = 16 := by omega
 by_cases hz : sizeS (bt s 1 : Nat) = 0
 ·rw [if_pos hz]
  exact oread_code s w (by omega) hz
 rw [if_neg hz]
 by_cases hl : (s.size : Int) ≠ sizeS (bt s 1 : Nat)
 ·rw [if_pos hl]
  exact oread_len s w (by omega) hz hl
 rw [if_neg hl]
 have hl : (s.size : Int) = sizeS (bt s 1 : Nat) := by omega
 by_cases h3 : ((bt s 1 : Nat) : Int) ≠ 3
 ·rw [if_pos h3]
  have h2 : sizeS (bt s 1 : Nat) = 2 := by have := size_one hz; unfold sizeS; rw [if_pos (by omega)]
  exact oread_short s w (by omega) h2 (by omega)
 rw [if_neg h3]
 have h3 : bt s 1 = 3 := by omega
 have hs : s.size = 58 := by rw [h3] at hl; have : sizeS ((3 : Nat) : Int) = 58 := rfl; omega
 cases hR : oRightC (ordE s)
 ·rw [if_neg (by decide)]
  exact oread_not s w hs h3 hR
 ·rw [if_pos rfl]
  exact oread_long s w hs h3 hR
end Go.Proofs.YtlpkfmfblglceaaGreatDoor
