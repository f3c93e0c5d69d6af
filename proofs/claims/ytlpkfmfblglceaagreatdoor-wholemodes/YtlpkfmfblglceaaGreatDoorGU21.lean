/- A part. -/
import Derived.Test.YtlpkfmfblglceaaGreatDoorGU20
namespace Go.Proofs.YtlpkfmfblglceaaGreatDoor
open Go.RowKit
set_option maxRecDepth 100000
set_option maxHeartbeats 20000000
def sunR (a b c d e f : Int) : V3 := if lit a b c d e f then (sunS a b c d e f).1 else (0, 0, 0)
theorem sdir_0 (s : ByteArray) (a b c d g f : Int) (w : World) (ra : 0 ≤ a ∧ a < 65536) (rb : 0 ≤ b ∧ b < 65536) (rc : 0 ≤ c ∧ c < 65536) (rd : 0 ≤ d ∧ d < 65536) (rg : 0 ≤ g ∧ g < 65536) (rf : 0 ≤ f ∧ f < 65536) (h0 : ∀ W : World, Calls Tryz.prog 217 #[.string s, .int .i64 0] W fun e w' => e = .returned (.int .i64 a) ∧ Below W.heap.size W w') (h1 : ∀ W : World, Calls Tryz.prog 217 #[.string s, .int .i64 1] W fun e w' => e = .returned (.int .i64 b) ∧ Below W.heap.size W w') (h2 : ∀ W : World, Calls Tryz.prog 217 #[.string s, .int .i64 2] W fun e w' => e = .returned (.int .i64 c) ∧ Below W.heap.size W w') (h3 : ∀ W : World, Calls Tryz.prog 217 #[.string s, .int .i64 3] W fun e w' => e = .returned (.int .i64 d) ∧ Below W.heap.size W w') (h4 : ∀ W : World, Calls Tryz.prog 217 #[.string s, .int .i64 4] W fun e w' => e = .returned (.int .i64 g) ∧ Below W.heap.size W w') (h5 : ∀ W : World, Calls Tryz.prog 217 #[.string s, .int .i64 5] W fun e w' => e = .returned (.int .i64 f) ∧ Below W.heap.size W w') (xa : 2000 ≤ a) :
    Calls Tryz.prog 197 #[.string s] w fun e w' => e = .returned (.tuple #[vecV (sunR a b c d g f), .bool (sunOk a b c d g f)]) ∧ Below w.heap.size w w' := by
 have Hl : Hid (lit a b c d g f = true) := by show _ = _; unfold lit; simp; omega
 go_enter Tryz.func197, Tryz.ntmps197
 go_wp2_with fail
 refine wp_loop_rounds 4 ?_
 refine rounds_letter (S := fun W => Below w.heap.size w W ∧ Arr (w.heap.size) [.int .i64 0, .int .i64 0, .int .i64 0] W ∧ Arr (w.heap.size + 1) [.int .i64 0, .int .i64 0, .int .i64 0] W) ⟨bel_al (bel_al (Below.refl _ _) _) _, (Arr_at w w.heap.size [.int .i64 0, .int .i64 0, .int .i64 0] _ rfl).alloc _, Arr_at _ (w.heap.size + 1) [.int .i64 0, .int .i64 0, .int .i64 0] _ (by simp)⟩ ?_
 rintro W1 ⟨L1, R1, V1⟩
 have Rz1 := R1.lies
 have Vz1 := V1.lies
 rw [rounds_succ]
 go_wp2_with fail
 refine (h0 _).mono ?_
 rintro e W2 ⟨rfl, k⟩
 have L2 := bel_then L1 k
 have R2 := R1.below k
 have V2 := V1.below k
 have Rz2 := R2.lies
 have Vz2 := V2.lies
 clear k L1 R1 V1 Rz1 Vz1
 go_wp2_with fail
 refine (h1 _).mono ?_
 rintro e W3 ⟨rfl, k⟩
 have L3 := bel_then L2 k
 have R3 := R2.below k
 have V3 := V2.below k
 have Rz3 := R3.lies
 have Vz3 := V3.lies
 clear k L2 R2 V2 Rz2 Vz2
 have cV_0 : W3.cell? ⟨w.heap.size + 1, 0, none⟩ = some (.int .i64 0) := V3.c 0 (zD rfl)
 have gV_0 := V3.f 0 (zD rfl)
 go_wp2_with fail
 clear cV_0 gV_0
 refine rounds_letter (S := fun W => Below w.heap.size w W ∧ Arr (w.heap.size) [.int .i64 0, .int .i64 0, .int .i64 0] W ∧ Arr (w.heap.size + 1) [.int .i64 ((a - b) * 16777216), .int .i64 0, .int .i64 0] W) ⟨bel_new L3 _ _ (by omega) _, R3.new _ _ (by omega) _, V3.put 0 (zD rfl) (.int .i64 ((a - b) * 16777216)) [.int .i64 ((a - b) * 16777216), .int .i64 0, .int .i64 0] rfl⟩ ?_
 rintro W4 ⟨L4, R4, V4⟩
 have Rz4 := R4.lies
 have Vz4 := V4.lies
 rw [rounds_succ]
 go_wp2_with fail
 refine (h2 _).mono ?_
 rintro e W5 ⟨rfl, k⟩
 have L5 := bel_then L4 k
 have R5 := R4.below k
 have V5 := V4.below k
 have Rz5 := R5.lies
 have Vz5 := V5.lies
 clear k L4 R4 V4 Rz4 Vz4
 go_wp2_with fail
 refine (h3 _).mono ?_
 rintro e W6 ⟨rfl, k⟩
 have L6 := bel_then L5 k
 have R6 := R5.below k
 have V6 := V5.below k
 have Rz6 := R6.lies
 have Vz6 := V6.lies
 clear k L5 R5 V5 Rz5 Vz5
 have cV_1 : W6.cell? ⟨w.heap.size + 1, 1, none⟩ = some (.int .i64 0) := V6.c 1 (zD rfl)
 have gV_1 := V6.f 1 (zD rfl)
 go_wp2_with fail
 clear cV_1 gV_1
 refine rounds_letter (S := fun W => Below w.heap.size w W ∧ Arr (w.heap.size) [.int .i64 0, .int .i64 0, .int .i64 0] W ∧ Arr (w.heap.size + 1) [.int .i64 ((a - b) * 16777216), .int .i64 ((c - d) * 16777216), .int .i64 0] W) ⟨bel_new L6 _ _ (by omega) _, R6.new _ _ (by omega) _, V6.put 1 (zD rfl) (.int .i64 ((c - d) * 16777216)) [.int .i64 ((a - b) * 16777216), .int .i64 ((c - d) * 16777216), .int .i64 0] rfl⟩ ?_
 rintro W7 ⟨L7, R7, V7⟩
 have Rz7 := R7.lies
 have Vz7 := V7.lies
 rw [rounds_succ]
 go_wp2_with fail
 refine (h4 _).mono ?_
 rintro e W8 ⟨rfl, k⟩
 have L8 := bel_then L7 k
 have R8 := R7.below k
 have V8 := V7.below k
 have Rz8 := R8.lies
 have Vz8 := V8.lies
 clear k L7 R7 V7 Rz7 Vz7
 go_wp2_with fail
 refine (h5 _).mono ?_
 rintro e W9 ⟨rfl, k⟩
 have L9 := bel_then L8 k
 have R9 := R8.below k
 have V9 := V8.below k
 have Rz9 := R9.lies
 have Vz9 := V9.lies
 clear k L8 R8 V8 Rz8 Vz8
 have cV_2 : W9.cell? ⟨w.heap.size + 1, 2, none⟩ = some (.int .i64 0) := V9.c 2 (zD rfl)
 have gV_2 := V9.f 2 (zD rfl)
 go_wp2_with fail
 clear cV_2 gV_2
 refine rounds_letter (S := fun W => Below w.heap.size w W ∧ Arr (w.heap.size) [.int .i64 0, .int .i64 0, .int .i64 0] W ∧ Arr (w.heap.size + 1) [.int .i64 ((a - b) * 16777216), .int .i64 ((c - d) * 16777216), .int .i64 ((g - f) * 16777216)] W) ⟨bel_new L9 _ _ (by omega) _, R9.new _ _ (by omega) _, V9.put 2 (zD rfl) (.int .i64 ((g - f) * 16777216)) [.int .i64 ((a - b) * 16777216), .int .i64 ((c - d) * 16777216), .int .i64 ((g - f) * 16777216)] rfl⟩ ?_
 rintro W10 ⟨L10, R10, V10⟩
 have Rz10 := R10.lies
 have Vz10 := V10.lies
 rw [rounds_succ]
 have cV_0 : W10.cell? ⟨w.heap.size + 1, 0, none⟩ = some (.int .i64 ((a - b) * 16777216)) := V10.c 0 (zD rfl)
 have cV_1 : W10.cell? ⟨w.heap.size + 1, 1, none⟩ = some (.int .i64 ((c - d) * 16777216)) := V10.c 1 (zD rfl)
 have cV_2 : W10.cell? ⟨w.heap.size + 1, 2, none⟩ = some (.int .i64 ((g - f) * 16777216)) := V10.c 2 (zD rfl)
 go_wp2_with fail
 refine (vUnit_any W10.heap.size false ((a - b) * 16777216, (c - d) * 16777216, (g - f) * 16777216) _ (Fl_at _ _ false _ rfl)).mono ?_
 rintro e X ⟨rfl, F, k⟩
 have eu : sunS a b c d g f = vUnitS false ((a - b) * 16777216, (c - d) * 16777216, (g - f) * 16777216) := rfl
 generalize vUnitS false ((a - b) * 16777216, (c - d) * 16777216, (g - f) * 16777216) = u at F eu ⊢
 have Eu : Hid _ := eu
 clear eu
 have L := k.on (bel_al L10 _) (L10.size)
 have R := (R10.alloc _).kept k (by omega)
 have Fc := F.cell
 have Fz := F.lies
 have Rz := R.lies
 clear k cV_0 cV_1 cV_2
 have cR_0 : X.cell? ⟨w.heap.size, 0, none⟩ = some (.int .i64 0) := R.c 0 (zD rfl)
 have cR_1 : X.cell? ⟨w.heap.size, 1, none⟩ = some (.int .i64 0) := R.c 1 (zD rfl)
 have cR_2 : X.cell? ⟨w.heap.size, 2, none⟩ = some (.int .i64 0) := R.c 2 (zD rfl)
 have gR_0 := R.f 0 (zD rfl)
 have gR_1 := R.f 1 (zD rfl)
 have gR_2 := R.f 2 (zD rfl)
 go_wp2_with fail
 go_region
 go_wp2_with (with_reducible refine post_stop ?_)
 have d0 := Arr.c (((R.put 0 (zD rfl) (.int .i64 u.1.1) [.int .i64 u.1.1, .int .i64 0, .int .i64 0] rfl).put 1 (zD rfl) (.int .i64 u.1.2.1) [.int .i64 u.1.1, .int .i64 u.1.2.1, .int .i64 0] rfl).put 2 (zD rfl) (.int .i64 u.1.2.2) [.int .i64 u.1.1, .int .i64 u.1.2.1, .int .i64 u.1.2.2] rfl) 0 (zD rfl)
 have d1 := Arr.c (((R.put 0 (zD rfl) (.int .i64 u.1.1) [.int .i64 u.1.1, .int .i64 0, .int .i64 0] rfl).put 1 (zD rfl) (.int .i64 u.1.2.1) [.int .i64 u.1.1, .int .i64 u.1.2.1, .int .i64 0] rfl).put 2 (zD rfl) (.int .i64 u.1.2.2) [.int .i64 u.1.1, .int .i64 u.1.2.1, .int .i64 u.1.2.2] rfl) 1 (zD rfl)
 have d2 := Arr.c (((R.put 0 (zD rfl) (.int .i64 u.1.1) [.int .i64 u.1.1, .int .i64 0, .int .i64 0] rfl).put 1 (zD rfl) (.int .i64 u.1.2.1) [.int .i64 u.1.1, .int .i64 u.1.2.1, .int .i64 0] rfl).put 2 (zD rfl) (.int .i64 u.1.2.2) [.int .i64 u.1.1, .int .i64 u.1.2.1, .int .i64 u.1.2.2] rfl) 2 (zD rfl)
 simp only [List.getElem_cons_zero, List.getElem_cons_succ] at d0 d1 d2
 refine ⟨bodyPost_ret (v := .tuple #[.agg #[.int .i64 u.1.1, .int .i64 u.1.2.1, .int .i64 u.1.2.2], .bool (!u.2)]) (by simp [results_cell_tmp Tryz.results197, asAddr, go_sem, d0, d1, d2, Rz]) rfl ⟨by unfold sunR sunOk; rw [Hl.out, Eu.out]; rfl, bel_drew (bel_al (bel_new (bel_new (bel_new L _ _ (by omega) _) _ _ (by omega) _) _ _ (by omega) _) _)⟩⟩
theorem sdir_1 (s : ByteArray) (a b c d g f : Int) (w : World) (ra : 0 ≤ a ∧ a < 65536) (rb : 0 ≤ b ∧ b < 65536) (rc : 0 ≤ c ∧ c < 65536) (rd : 0 ≤ d ∧ d < 65536) (rg : 0 ≤ g ∧ g < 65536) (rf : 0 ≤ f ∧ f < 65536) (h0 : ∀ W : World, Calls Tryz.prog 217 #[.string s, .int .i64 0] W fun e w' => e = .returned (.int .i64 a) ∧ Below W.heap.size W w') (h1 : ∀ W : World, Calls Tryz.prog 217 #[.string s, .int .i64 1] W fun e w' => e = .returned (.int .i64 b) ∧ Below W.heap.size W w') (h2 : ∀ W : World, Calls Tryz.prog 217 #[.string s, .int .i64 2] W fun e w' => e = .returned (.int .i64 c) ∧ Below W.heap.size W w') (h3 : ∀ W : World, Calls Tryz.prog 217 #[.string s, .int .i64 3] W fun e w' => e = .returned (.int .i64 d) ∧ Below W.heap.size W w') (h4 : ∀ W : World, Calls Tryz.prog 217 #[.string s, .int .i64 4] W fun e w' => e = .returned (.int .i64 g) ∧ Below W.heap.size W w') (h5 : ∀ W : World, Calls Tryz.prog 217 #[.string s, .int .i64 5] W fun e w' => e = .returned (.int .i64 f) ∧ Below W.heap.size W w') (xa : a < 2000) (xb : 2000 ≤ b) :
    Calls Tryz.prog 197 #[.string s] w fun e w' => e = .returned (.tuple #[vecV (sunR a b c d g f), .bool (sunOk a b c d g f)]) ∧ Below w.heap.size w w' := by
 have Hl : Hid (lit a b c d g f = true) := by show _ = _; unfold lit; simp; omega
 go_enter Tryz.func197, Tryz.ntmps197
 go_wp2_with fail
 refine wp_loop_rounds 4 ?_
 refine rounds_letter (S := fun W => Below w.heap.size w W ∧ Arr (w.heap.size) [.int .i64 0, .int .i64 0, .int .i64 0] W ∧ Arr (w.heap.size + 1) [.int .i64 0, .int .i64 0, .int .i64 0] W) ⟨bel_al (bel_al (Below.refl _ _) _) _, (Arr_at w w.heap.size [.int .i64 0, .int .i64 0, .int .i64 0] _ rfl).alloc _, Arr_at _ (w.heap.size + 1) [.int .i64 0, .int .i64 0, .int .i64 0] _ (by simp)⟩ ?_
 rintro W1 ⟨L1, R1, V1⟩
 have Rz1 := R1.lies
 have Vz1 := V1.lies
 rw [rounds_succ]
 go_wp2_with fail
 refine (h0 _).mono ?_
 rintro e W2 ⟨rfl, k⟩
 have L2 := bel_then L1 k
 have R2 := R1.below k
 have V2 := V1.below k
 have Rz2 := R2.lies
 have Vz2 := V2.lies
 clear k L1 R1 V1 Rz1 Vz1
 go_wp2_with fail
 refine (h1 _).mono ?_
 rintro e W3 ⟨rfl, k⟩
 have L3 := bel_then L2 k
 have R3 := R2.below k
 have V3 := V2.below k
 have Rz3 := R3.lies
 have Vz3 := V3.lies
 clear k L2 R2 V2 Rz2 Vz2
 have cV_0 : W3.cell? ⟨w.heap.size + 1, 0, none⟩ = some (.int .i64 0) := V3.c 0 (zD rfl)
 have gV_0 := V3.f 0 (zD rfl)
 go_wp2_with fail
 clear cV_0 gV_0
 refine rounds_letter (S := fun W => Below w.heap.size w W ∧ Arr (w.heap.size) [.int .i64 0, .int .i64 0, .int .i64 0] W ∧ Arr (w.heap.size + 1) [.int .i64 ((a - b) * 16777216), .int .i64 0, .int .i64 0] W) ⟨bel_new L3 _ _ (by omega) _, R3.new _ _ (by omega) _, V3.put 0 (zD rfl) (.int .i64 ((a - b) * 16777216)) [.int .i64 ((a - b) * 16777216), .int .i64 0, .int .i64 0] rfl⟩ ?_
 rintro W4 ⟨L4, R4, V4⟩
 have Rz4 := R4.lies
 have Vz4 := V4.lies
 rw [rounds_succ]
 go_wp2_with fail
 refine (h2 _).mono ?_
 rintro e W5 ⟨rfl, k⟩
 have L5 := bel_then L4 k
 have R5 := R4.below k
 have V5 := V4.below k
 have Rz5 := R5.lies
 have Vz5 := V5.lies
 clear k L4 R4 V4 Rz4 Vz4
 go_wp2_with fail
 refine (h3 _).mono ?_
 rintro e W6 ⟨rfl, k⟩
 have L6 := bel_then L5 k
 have R6 := R5.below k
 have V6 := V5.below k
 have Rz6 := R6.lies
 have Vz6 := V6.lies
 clear k L5 R5 V5 Rz5 Vz5
 have cV_1 : W6.cell? ⟨w.heap.size + 1, 1, none⟩ = some (.int .i64 0) := V6.c 1 (zD rfl)
 have gV_1 := V6.f 1 (zD rfl)
 go_wp2_with fail
 clear cV_1 gV_1
 refine rounds_letter (S := fun W => Below w.heap.size w W ∧ Arr (w.heap.size) [.int .i64 0, .int .i64 0, .int .i64 0] W ∧ Arr (w.heap.size + 1) [.int .i64 ((a - b) * 16777216), .int .i64 ((c - d) * 16777216), .int .i64 0] W) ⟨bel_new L6 _ _ (by omega) _, R6.new _ _ (by omega) _, V6.put 1 (zD rfl) (.int .i64 ((c - d) * 16777216)) [.int .i64 ((a - b) * 16777216), .int .i64 ((c - d) * 16777216), .int .i64 0] rfl⟩ ?_
 rintro W7 ⟨L7, R7, V7⟩
 have Rz7 := R7.lies
 have Vz7 := V7.lies
 rw [rounds_succ]
 go_wp2_with fail
 refine (h4 _).mono ?_
 rintro e W8 ⟨rfl, k⟩
 have L8 := bel_then L7 k
 have R8 := R7.below k
 have V8 := V7.below k
 have Rz8 := R8.lies
 have Vz8 := V8.lies
 clear k L7 R7 V7 Rz7 Vz7
 go_wp2_with fail
 refine (h5 _).mono ?_
 rintro e W9 ⟨rfl, k⟩
 have L9 := bel_then L8 k
 have R9 := R8.below k
 have V9 := V8.below k
 have Rz9 := R9.lies
 have Vz9 := V9.lies
 clear k L8 R8 V8 Rz8 Vz8
 have cV_2 : W9.cell? ⟨w.heap.size + 1, 2, none⟩ = some (.int .i64 0) := V9.c 2 (zD rfl)
 have gV_2 := V9.f 2 (zD rfl)
 go_wp2_with fail
 clear cV_2 gV_2
 refine rounds_letter (S := fun W => Below w.heap.size w W ∧ Arr (w.heap.size) [.int .i64 0, .int .i64 0, .int .i64 0] W ∧ Arr (w.heap.size + 1) [.int .i64 ((a - b) * 16777216), .int .i64 ((c - d) * 16777216), .int .i64 ((g - f) * 16777216)] W) ⟨bel_new L9 _ _ (by omega) _, R9.new _ _ (by omega) _, V9.put 2 (zD rfl) (.int .i64 ((g - f) * 16777216)) [.int .i64 ((a - b) * 16777216), .int .i64 ((c - d) * 16777216), .int .i64 ((g - f) * 16777216)] rfl⟩ ?_
 rintro W10 ⟨L10, R10, V10⟩
 have Rz10 := R10.lies
 have Vz10 := V10.lies
 rw [rounds_succ]
 have cV_0 : W10.cell? ⟨w.heap.size + 1, 0, none⟩ = some (.int .i64 ((a - b) * 16777216)) := V10.c 0 (zD rfl)
 have cV_1 : W10.cell? ⟨w.heap.size + 1, 1, none⟩ = some (.int .i64 ((c - d) * 16777216)) := V10.c 1 (zD rfl)
 have cV_2 : W10.cell? ⟨w.heap.size + 1, 2, none⟩ = some (.int .i64 ((g - f) * 16777216)) := V10.c 2 (zD rfl)
 go_wp2_with fail
 refine (vUnit_any W10.heap.size false ((a - b) * 16777216, (c - d) * 16777216, (g - f) * 16777216) _ (Fl_at _ _ false _ rfl)).mono ?_
 rintro e X ⟨rfl, F, k⟩
 have eu : sunS a b c d g f = vUnitS false ((a - b) * 16777216, (c - d) * 16777216, (g - f) * 16777216) := rfl
 generalize vUnitS false ((a - b) * 16777216, (c - d) * 16777216, (g - f) * 16777216) = u at F eu ⊢
 have Eu : Hid _ := eu
 clear eu
 have L := k.on (bel_al L10 _) (L10.size)
 have R := (R10.alloc _).kept k (by omega)
 have Fc := F.cell
 have Fz := F.lies
 have Rz := R.lies
 clear k cV_0 cV_1 cV_2
 have cR_0 : X.cell? ⟨w.heap.size, 0, none⟩ = some (.int .i64 0) := R.c 0 (zD rfl)
 have cR_1 : X.cell? ⟨w.heap.size, 1, none⟩ = some (.int .i64 0) := R.c 1 (zD rfl)
 have cR_2 : X.cell? ⟨w.heap.size, 2, none⟩ = some (.int .i64 0) := R.c 2 (zD rfl)
 have gR_0 := R.f 0 (zD rfl)
 have gR_1 := R.f 1 (zD rfl)
 have gR_2 := R.f 2 (zD rfl)
 go_wp2_with fail
 go_region
 go_wp2_with (with_reducible refine post_stop ?_)
 have d0 := Arr.c (((R.put 0 (zD rfl) (.int .i64 u.1.1) [.int .i64 u.1.1, .int .i64 0, .int .i64 0] rfl).put 1 (zD rfl) (.int .i64 u.1.2.1) [.int .i64 u.1.1, .int .i64 u.1.2.1, .int .i64 0] rfl).put 2 (zD rfl) (.int .i64 u.1.2.2) [.int .i64 u.1.1, .int .i64 u.1.2.1, .int .i64 u.1.2.2] rfl) 0 (zD rfl)
 have d1 := Arr.c (((R.put 0 (zD rfl) (.int .i64 u.1.1) [.int .i64 u.1.1, .int .i64 0, .int .i64 0] rfl).put 1 (zD rfl) (.int .i64 u.1.2.1) [.int .i64 u.1.1, .int .i64 u.1.2.1, .int .i64 0] rfl).put 2 (zD rfl) (.int .i64 u.1.2.2) [.int .i64 u.1.1, .int .i64 u.1.2.1, .int .i64 u.1.2.2] rfl) 1 (zD rfl)
 have d2 := Arr.c (((R.put 0 (zD rfl) (.int .i64 u.1.1) [.int .i64 u.1.1, .int .i64 0, .int .i64 0] rfl).put 1 (zD rfl) (.int .i64 u.1.2.1) [.int .i64 u.1.1, .int .i64 u.1.2.1, .int .i64 0] rfl).put 2 (zD rfl) (.int .i64 u.1.2.2) [.int .i64 u.1.1, .int .i64 u.1.2.1, .int .i64 u.1.2.2] rfl) 2 (zD rfl)
 simp only [List.getElem_cons_zero, List.getElem_cons_succ] at d0 d1 d2
 refine ⟨bodyPost_ret (v := .tuple #[.agg #[.int .i64 u.1.1, .int .i64 u.1.2.1, .int .i64 u.1.2.2], .bool (!u.2)]) (by simp [results_cell_tmp Tryz.results197, asAddr, go_sem, d0, d1, d2, Rz]) rfl ⟨by unfold sunR sunOk; rw [Hl.out, Eu.out]; rfl, bel_drew (bel_al (bel_new (bel_new (bel_new L _ _ (by omega) _) _ _ (by omega) _) _ _ (by omega) _) _)⟩⟩
theorem sdir_2 (s : ByteArray) (a b c d g f : Int) (w : World) (ra : 0 ≤ a ∧ a < 65536) (rb : 0 ≤ b ∧ b < 65536) (rc : 0 ≤ c ∧ c < 65536) (rd : 0 ≤ d ∧ d < 65536) (rg : 0 ≤ g ∧ g < 65536) (rf : 0 ≤ f ∧ f < 65536) (h0 : ∀ W : World, Calls Tryz.prog 217 #[.string s, .int .i64 0] W fun e w' => e = .returned (.int .i64 a) ∧ Below W.heap.size W w') (h1 : ∀ W : World, Calls Tryz.prog 217 #[.string s, .int .i64 1] W fun e w' => e = .returned (.int .i64 b) ∧ Below W.heap.size W w') (h2 : ∀ W : World, Calls Tryz.prog 217 #[.string s, .int .i64 2] W fun e w' => e = .returned (.int .i64 c) ∧ Below W.heap.size W w') (h3 : ∀ W : World, Calls Tryz.prog 217 #[.string s, .int .i64 3] W fun e w' => e = .returned (.int .i64 d) ∧ Below W.heap.size W w') (h4 : ∀ W : World, Calls Tryz.prog 217 #[.string s, .int .i64 4] W fun e w' => e = .returned (.int .i64 g) ∧ Below W.heap.size W w') (h5 : ∀ W : World, Calls Tryz.prog 217 #[.string s, .int .i64 5] W fun e w' => e = .returned (.int .i64 f) ∧ Below W.heap.size W w') (xa : a < 2000) (xb : b < 2000) (xc : 2000 ≤ c) :
    Calls Tryz.prog 197 #[.string s] w fun e w' => e = .returned (.tuple #[vecV (sunR a b c d g f), .bool (sunOk a b c d g f)]) ∧ Below w.heap.size w w' := by
 have Hl : Hid (lit a b c d g f = true) := by show _ = _; unfold lit; simp; omega
 go_enter Tryz.func197, Tryz.ntmps197
 go_wp2_with fail
 refine wp_loop_rounds 4 ?_
 refine rounds_letter (S := fun W => Below w.heap.size w W ∧ Arr (w.heap.size) [.int .i64 0, .int .i64 0, .int .i64 0] W ∧ Arr (w.heap.size + 1) [.int .i64 0, .int .i64 0, .int .i64 0] W) ⟨bel_al (bel_al (Below.refl _ _) _) _, (Arr_at w w.heap.size [.int .i64 0, .int .i64 0, .int .i64 0] _ rfl).alloc _, Arr_at _ (w.heap.size + 1) [.int .i64 0, .int .i64 0, .int .i64 0] _ (by simp)⟩ ?_
 rintro W1 ⟨L1, R1, V1⟩
 have Rz1 := R1.lies
 have Vz1 := V1.lies
 rw [rounds_succ]
 go_wp2_with fail
 refine (h0 _).mono ?_
 rintro e W2 ⟨rfl, k⟩
 have L2 := bel_then L1 k
 have R2 := R1.below k
 have V2 := V1.below k
 have Rz2 := R2.lies
 have Vz2 := V2.lies
 clear k L1 R1 V1 Rz1 Vz1
 go_wp2_with fail
 refine (h1 _).mono ?_
 rintro e W3 ⟨rfl, k⟩
 have L3 := bel_then L2 k
 have R3 := R2.below k
 have V3 := V2.below k
 have Rz3 := R3.lies
 have Vz3 := V3.lies
 clear k L2 R2 V2 Rz2 Vz2
 have cV_0 : W3.cell? ⟨w.heap.size + 1, 0, none⟩ = some (.int .i64 0) := V3.c 0 (zD rfl)
 have gV_0 := V3.f 0 (zD rfl)
 go_wp2_with fail
 clear cV_0 gV_0
 refine rounds_letter (S := fun W => Below w.heap.size w W ∧ Arr (w.heap.size) [.int .i64 0, .int .i64 0, .int .i64 0] W ∧ Arr (w.heap.size + 1) [.int .i64 ((a - b) * 16777216), .int .i64 0, .int .i64 0] W) ⟨bel_new L3 _ _ (by omega) _, R3.new _ _ (by omega) _, V3.put 0 (zD rfl) (.int .i64 ((a - b) * 16777216)) [.int .i64 ((a - b) * 16777216), .int .i64 0, .int .i64 0] rfl⟩ ?_
 rintro W4 ⟨L4, R4, V4⟩
 have Rz4 := R4.lies
 have Vz4 := V4.lies
 rw [rounds_succ]
 go_wp2_with fail
 refine (h2 _).mono ?_
 rintro e W5 ⟨rfl, k⟩
 have L5 := bel_then L4 k
 have R5 := R4.below k
 have V5 := V4.below k
 have Rz5 := R5.lies
 have Vz5 := V5.lies
 clear k L4 R4 V4 Rz4 Vz4
 go_wp2_with fail
 refine (h3 _).mono ?_
 rintro e W6 ⟨rfl, k⟩
 have L6 := bel_then L5 k
 have R6 := R5.below k
 have V6 := V5.below k
 have Rz6 := R6.lies
 have Vz6 := V6.lies
 clear k L5 R5 V5 Rz5 Vz5
 have cV_1 : W6.cell? ⟨w.heap.size + 1, 1, none⟩ = some (.int .i64 0) := V6.c 1 (zD rfl)
 have gV_1 := V6.f 1 (zD rfl)
 go_wp2_with fail
 clear cV_1 gV_1
 refine rounds_letter (S := fun W => Below w.heap.size w W ∧ Arr (w.heap.size) [.int .i64 0, .int .i64 0, .int .i64 0] W ∧ Arr (w.heap.size + 1) [.int .i64 ((a - b) * 16777216), .int .i64 ((c - d) * 16777216), .int .i64 0] W) ⟨bel_new L6 _ _ (by omega) _, R6.new _ _ (by omega) _, V6.put 1 (zD rfl) (.int .i64 ((c - d) * 16777216)) [.int .i64 ((a - b) * 16777216), .int .i64 ((c - d) * 16777216), .int .i64 0] rfl⟩ ?_
 rintro W7 ⟨L7, R7, V7⟩
 have Rz7 := R7.lies
 have Vz7 := V7.lies
 rw [rounds_succ]
 go_wp2_with fail
 refine (h4 _).mono ?_
 rintro e W8 ⟨rfl, k⟩
 have L8 := bel_then L7 k
 have R8 := R7.below k
 have V8 := V7.below k
 have Rz8 := R8.lies
 have Vz8 := V8.lies
 clear k L7 R7 V7 Rz7 Vz7
 go_wp2_with fail
 refine (h5 _).mono ?_
 rintro e W9 ⟨rfl, k⟩
 have L9 := bel_then L8 k
 have R9 := R8.below k
 have V9 := V8.below k
 have Rz9 := R9.lies
 have Vz9 := V9.lies
 clear k L8 R8 V8 Rz8 Vz8
 have cV_2 : W9.cell? ⟨w.heap.size + 1, 2, none⟩ = some (.int .i64 0) := V9.c 2 (zD rfl)
 have gV_2 := V9.f 2 (zD rfl)
 go_wp2_with fail
 clear cV_2 gV_2
 refine rounds_letter (S := fun W => Below w.heap.size w W ∧ Arr (w.heap.size) [.int .i64 0, .int .i64 0, .int .i64 0] W ∧ Arr (w.heap.size + 1) [.int .i64 ((a - b) * 16777216), .int .i64 ((c - d) * 16777216), .int .i64 ((g - f) * 16777216)] W) ⟨bel_new L9 _ _ (by omega) _, R9.new _ _ (by omega) _, V9.put 2 (zD rfl) (.int .i64 ((g - f) * 16777216)) [.int .i64 ((a - b) * 16777216), .int .i64 ((c - d) * 16777216), .int .i64 ((g - f) * 16777216)] rfl⟩ ?_
 rintro W10 ⟨L10, R10, V10⟩
 have Rz10 := R10.lies
 have Vz10 := V10.lies
 rw [rounds_succ]
 have cV_0 : W10.cell? ⟨w.heap.size + 1, 0, none⟩ = some (.int .i64 ((a - b) * 16777216)) := V10.c 0 (zD rfl)
 have cV_1 : W10.cell? ⟨w.heap.size + 1, 1, none⟩ = some (.int .i64 ((c - d) * 16777216)) := V10.c 1 (zD rfl)
 have cV_2 : W10.cell? ⟨w.heap.size + 1, 2, none⟩ = some (.int .i64 ((g - f) * 16777216)) := V10.c 2 (zD rfl)
 go_wp2_with fail
 refine (vUnit_any W10.heap.size false ((a - b) * 16777216, (c - d) * 16777216, (g - f) * 16777216) _ (Fl_at _ _ false _ rfl)).mono ?_
 rintro e X ⟨rfl, F, k⟩
 have eu : sunS a b c d g f = vUnitS false ((a - b) * 16777216, (c - d) * 16777216, (g - f) * 16777216) := rfl
 generalize vUnitS false ((a - b) * 16777216, (c - d) * 16777216, (g - f) * 16777216) = u at F eu ⊢
 have Eu : Hid _ := eu
 clear eu
 have L := k.on (bel_al L10 _) (L10.size)
 have R := (R10.alloc _).kept k (by omega)
 have Fc := F.cell
 have Fz := F.lies
 have Rz := R.lies
 clear k cV_0 cV_1 cV_2
 have cR_0 : X.cell? ⟨w.heap.size, 0, none⟩ = some (.int .i64 0) := R.c 0 (zD rfl)
 have cR_1 : X.cell? ⟨w.heap.size, 1, none⟩ = some (.int .i64 0) := R.c 1 (zD rfl)
 have cR_2 : X.cell? ⟨w.heap.size, 2, none⟩ = some (.int .i64 0) := R.c 2 (zD rfl)
 have gR_0 := R.f 0 (zD rfl)
 have gR_1 := R.f 1 (zD rfl)
 have gR_2 := R.f 2 (zD rfl)
 go_wp2_with fail
 go_region
 go_wp2_with (with_reducible refine post_stop ?_)
 have d0 := Arr.c (((R.put 0 (zD rfl) (.int .i64 u.1.1) [.int .i64 u.1.1, .int .i64 0, .int .i64 0] rfl).put 1 (zD rfl) (.int .i64 u.1.2.1) [.int .i64 u.1.1, .int .i64 u.1.2.1, .int .i64 0] rfl).put 2 (zD rfl) (.int .i64 u.1.2.2) [.int .i64 u.1.1, .int .i64 u.1.2.1, .int .i64 u.1.2.2] rfl) 0 (zD rfl)
 have d1 := Arr.c (((R.put 0 (zD rfl) (.int .i64 u.1.1) [.int .i64 u.1.1, .int .i64 0, .int .i64 0] rfl).put 1 (zD rfl) (.int .i64 u.1.2.1) [.int .i64 u.1.1, .int .i64 u.1.2.1, .int .i64 0] rfl).put 2 (zD rfl) (.int .i64 u.1.2.2) [.int .i64 u.1.1, .int .i64 u.1.2.1, .int .i64 u.1.2.2] rfl) 1 (zD rfl)
 have d2 := Arr.c (((R.put 0 (zD rfl) (.int .i64 u.1.1) [.int .i64 u.1.1, .int .i64 0, .int .i64 0] rfl).put 1 (zD rfl) (.int .i64 u.1.2.1) [.int .i64 u.1.1, .int .i64 u.1.2.1, .int .i64 0] rfl).put 2 (zD rfl) (.int .i64 u.1.2.2) [.int .i64 u.1.1, .int .i64 u.1.2.1, .int .i64 u.1.2.2] rfl) 2 (zD rfl)
 simp only [List.getElem_cons_zero, List.getElem_cons_succ] at d0 d1 d2
 refine ⟨bodyPost_ret (v := .tuple #[.agg #[.int .i64 u.1.1, .int .i64 u.1.2.1, .int .i64 u.1.2.2], .bool (!u.2)]) (by simp [results_cell_tmp Tryz.results197, asAddr, go_sem, d0, d1, d2, Rz]) rfl ⟨by unfold sunR sunOk; rw [Hl.out, Eu.out]; rfl, bel_drew (bel_al (bel_new (bel_new (bel_new L _ _ (by omega) _) _ _ (by omega) _) _ _ (by omega) _) _)⟩⟩
theorem sdir_3 (s : ByteArray) (a b c d g f : Int) (w : World) (ra : 0 ≤ a ∧ a < 65536) (rb : 0 ≤ b ∧ b < 65536) (rc : 0 ≤ c ∧ c < 65536) (rd : 0 ≤ d ∧ d < 65536) (rg : 0 ≤ g ∧ g < 65536) (rf : 0 ≤ f ∧ f < 65536) (h0 : ∀ W : World, Calls Tryz.prog 217 #[.string s, .int .i64 0] W fun e w' => e = .returned (.int .i64 a) ∧ Below W.heap.size W w') (h1 : ∀ W : World, Calls Tryz.prog 217 #[.string s, .int .i64 1] W fun e w' => e = .returned (.int .i64 b) ∧ Below W.heap.size W w') (h2 : ∀ W : World, Calls Tryz.prog 217 #[.string s, .int .i64 2] W fun e w' => e = .returned (.int .i64 c) ∧ Below W.heap.size W w') (h3 : ∀ W : World, Calls Tryz.prog 217 #[.string s, .int .i64 3] W fun e w' => e = .returned (.int .i64 d) ∧ Below W.heap.size W w') (h4 : ∀ W : World, Calls Tryz.prog 217 #[.string s, .int .i64 4] W fun e w' => e = .returned (.int .i64 g) ∧ Below W.heap.size W w') (h5 : ∀ W : World, Calls Tryz.prog 217 #[.string s, .int .i64 5] W fun e w' => e = .returned (.int .i64 f) ∧ Below W.heap.size W w') (xa : a < 2000) (xb : b < 2000) (xc : c < 2000) (xd : 2000 ≤ d) :
    Calls Tryz.prog 197 #[.string s] w fun e w' => e = .returned (.tuple #[vecV (sunR a b c d g f), .bool (sunOk a b c d g f)]) ∧ Below w.heap.size w w' := by
 have Hl : Hid (lit a b c d g f = true) := by show _ = _; unfold lit; simp; omega
 go_enter Tryz.func197, Tryz.ntmps197
 go_wp2_with fail
 refine wp_loop_rounds 4 ?_
 refine rounds_letter (S := fun W => Below w.heap.size w W ∧ Arr (w.heap.size) [.int .i64 0, .int .i64 0, .int .i64 0] W ∧ Arr (w.heap.size + 1) [.int .i64 0, .int .i64 0, .int .i64 0] W) ⟨bel_al (bel_al (Below.refl _ _) _) _, (Arr_at w w.heap.size [.int .i64 0, .int .i64 0, .int .i64 0] _ rfl).alloc _, Arr_at _ (w.heap.size + 1) [.int .i64 0, .int .i64 0, .int .i64 0] _ (by simp)⟩ ?_
 rintro W1 ⟨L1, R1, V1⟩
 have Rz1 := R1.lies
 have Vz1 := V1.lies
 rw [rounds_succ]
 go_wp2_with fail
 refine (h0 _).mono ?_
 rintro e W2 ⟨rfl, k⟩
 have L2 := bel_then L1 k
 have R2 := R1.below k
 have V2 := V1.below k
 have Rz2 := R2.lies
 have Vz2 := V2.lies
 clear k L1 R1 V1 Rz1 Vz1
 go_wp2_with fail
 refine (h1 _).mono ?_
 rintro e W3 ⟨rfl, k⟩
 have L3 := bel_then L2 k
 have R3 := R2.below k
 have V3 := V2.below k
 have Rz3 := R3.lies
 have Vz3 := V3.lies
 clear k L2 R2 V2 Rz2 Vz2
 have cV_0 : W3.cell? ⟨w.heap.size + 1, 0, none⟩ = some (.int .i64 0) := V3.c 0 (zD rfl)
 have gV_0 := V3.f 0 (zD rfl)
 go_wp2_with fail
 clear cV_0 gV_0
 refine rounds_letter (S := fun W => Below w.heap.size w W ∧ Arr (w.heap.size) [.int .i64 0, .int .i64 0, .int .i64 0] W ∧ Arr (w.heap.size + 1) [.int .i64 ((a - b) * 16777216), .int .i64 0, .int .i64 0] W) ⟨bel_new L3 _ _ (by omega) _, R3.new _ _ (by omega) _, V3.put 0 (zD rfl) (.int .i64 ((a - b) * 16777216)) [.int .i64 ((a - b) * 16777216), .int .i64 0, .int .i64 0] rfl⟩ ?_
 rintro W4 ⟨L4, R4, V4⟩
 have Rz4 := R4.lies
 have Vz4 := V4.lies
 rw [rounds_succ]
 go_wp2_with fail
 refine (h2 _).mono ?_
 rintro e W5 ⟨rfl, k⟩
 have L5 := bel_then L4 k
 have R5 := R4.below k
 have V5 := V4.below k
 have Rz5 := R5.lies
 have Vz5 := V5.lies
 clear k L4 R4 V4 Rz4 Vz4
 go_wp2_with fail
 refine (h3 _).mono ?_
 rintro e W6 ⟨rfl, k⟩
 have L6 := bel_then L5 k
 have R6 := R5.below k
 have V6 := V5.below k
 have Rz6 := R6.lies
 have Vz6 := V6.lies
 clear k L5 R5 V5 Rz5 Vz5
 have cV_1 : W6.cell? ⟨w.heap.size + 1, 1, none⟩ = some (.int .i64 0) := V6.c 1 (zD rfl)
 have gV_1 := V6.f 1 (zD rfl)
 go_wp2_with fail
 clear cV_1 gV_1
 refine rounds_letter (S := fun W => Below w.heap.size w W ∧ Arr (w.heap.size) [.int .i64 0, .int .i64 0, .int .i64 0] W ∧ Arr (w.heap.size + 1) [.int .i64 ((a - b) * 16777216), .int .i64 ((c - d) * 16777216), .int .i64 0] W) ⟨bel_new L6 _ _ (by omega) _, R6.new _ _ (by omega) _, V6.put 1 (zD rfl) (.int .i64 ((c - d) * 16777216)) [.int .i64 ((a - b) * 16777216), .int .i64 ((c - d) * 16777216), .int .i64 0] rfl⟩ ?_
 rintro W7 ⟨L7, R7, V7⟩
 have Rz7 := R7.lies
 have Vz7 := V7.lies
 rw [rounds_succ]
 go_wp2_with fail
 refine (h4 _).mono ?_
 rintro e W8 ⟨rfl, k⟩
 have L8 := bel_then L7 k
 have R8 := R7.below k
 have V8 := V7.below k
 have Rz8 := R8.lies
 have Vz8 := V8.lies
 clear k L7 R7 V7 Rz7 Vz7
 go_wp2_with fail
 refine (h5 _).mono ?_
 rintro e W9 ⟨rfl, k⟩
 have L9 := bel_then L8 k
 have R9 := R8.below k
 have V9 := V8.below k
 have Rz9 := R9.lies
 have Vz9 := V9.lies
 clear k L8 R8 V8 Rz8 Vz8
 have cV_2 : W9.cell? ⟨w.heap.size + 1, 2, none⟩ = some (.int .i64 0) := V9.c 2 (zD rfl)
 have gV_2 := V9.f 2 (zD rfl)
 go_wp2_with fail
 clear cV_2 gV_2
 refine rounds_letter (S := fun W => Below w.heap.size w W ∧ Arr (w.heap.size) [.int .i64 0, .int .i64 0, .int .i64 0] W ∧ Arr (w.heap.size + 1) [.int .i64 ((a - b) * 16777216), .int .i64 ((c - d) * 16777216), .int .i64 ((g - f) * 16777216)] W) ⟨bel_new L9 _ _ (by omega) _, R9.new _ _ (by omega) _, V9.put 2 (zD rfl) (.int .i64 ((g - f) * 16777216)) [.int .i64 ((a - b) * 16777216), .int .i64 ((c - d) * 16777216), .int .i64 ((g - f) * 16777216)] rfl⟩ ?_
 rintro W10 ⟨L10, R10, V10⟩
 have Rz10 := R10.lies
 have Vz10 := V10.lies
 rw [rounds_succ]
 have cV_0 : W10.cell? ⟨w.heap.size + 1, 0, none⟩ = some (.int .i64 ((a - b) * 16777216)) := V10.c 0 (zD rfl)
 have cV_1 : W10.cell? ⟨w.heap.size + 1, 1, none⟩ = some (.int .i64 ((c - d) * 16777216)) := V10.c 1 (zD rfl)
 have cV_2 : W10.cell? ⟨w.heap.size + 1, 2, none⟩ = some (.int .i64 ((g - f) * 16777216)) := V10.c 2 (zD rfl)
 go_wp2_with fail
 refine (vUnit_any W10.heap.size false ((a - b) * 16777216, (c - d) * 16777216, (g - f) * 16777216) _ (Fl_at _ _ false _ rfl)).mono ?_
 rintro e X ⟨rfl, F, k⟩
 have eu : sunS a b c d g f = vUnitS false ((a - b) * 16777216, (c - d) * 16777216, (g - f) * 16777216) := rfl
 generalize vUnitS false ((a - b) * 16777216, (c - d) * 16777216, (g - f) * 16777216) = u at F eu ⊢
 have Eu : Hid _ := eu
 clear eu
 have L := k.on (bel_al L10 _) (L10.size)
 have R := (R10.alloc _).kept k (by omega)
 have Fc := F.cell
 have Fz := F.lies
 have Rz := R.lies
 clear k cV_0 cV_1 cV_2
 have cR_0 : X.cell? ⟨w.heap.size, 0, none⟩ = some (.int .i64 0) := R.c 0 (zD rfl)
 have cR_1 : X.cell? ⟨w.heap.size, 1, none⟩ = some (.int .i64 0) := R.c 1 (zD rfl)
 have cR_2 : X.cell? ⟨w.heap.size, 2, none⟩ = some (.int .i64 0) := R.c 2 (zD rfl)
 have gR_0 := R.f 0 (zD rfl)
 have gR_1 := R.f 1 (zD rfl)
 have gR_2 := R.f 2 (zD rfl)
 go_wp2_with fail
 go_region
 go_wp2_with (with_reducible refine post_stop ?_)
 have d0 := Arr.c (((R.put 0 (zD rfl) (.int .i64 u.1.1) [.int .i64 u.1.1, .int .i64 0, .int .i64 0] rfl).put 1 (zD rfl) (.int .i64 u.1.2.1) [.int .i64 u.1.1, .int .i64 u.1.2.1, .int .i64 0] rfl).put 2 (zD rfl) (.int .i64 u.1.2.2) [.int .i64 u.1.1, .int .i64 u.1.2.1, .int .i64 u.1.2.2] rfl) 0 (zD rfl)
 have d1 := Arr.c (((R.put 0 (zD rfl) (.int .i64 u.1.1) [.int .i64 u.1.1, .int .i64 0, .int .i64 0] rfl).put 1 (zD rfl) (.int .i64 u.1.2.1) [.int .i64 u.1.1, .int .i64 u.1.2.1, .int .i64 0] rfl).put 2 (zD rfl) (.int .i64 u.1.2.2) [.int .i64 u.1.1, .int .i64 u.1.2.1, .int .i64 u.1.2.2] rfl) 1 (zD rfl)
 have d2 := Arr.c (((R.put 0 (zD rfl) (.int .i64 u.1.1) [.int .i64 u.1.1, .int .i64 0, .int .i64 0] rfl).put 1 (zD rfl) (.int .i64 u.1.2.1) [.int .i64 u.1.1, .int .i64 u.1.2.1, .int .i64 0] rfl).put 2 (zD rfl) (.int .i64 u.1.2.2) [.int .i64 u.1.1, .int .i64 u.1.2.1, .int .i64 u.1.2.2] rfl) 2 (zD rfl)
 simp only [List.getElem_cons_zero, List.getElem_cons_succ] at d0 d1 d2
 refine ⟨bodyPost_ret (v := .tuple #[.agg #[.int .i64 u.1.1, .int .i64 u.1.2.1, .int .i64 u.1.2.2], .bool (!u.2)]) (by simp [results_cell_tmp Tryz.results197, asAddr, go_sem, d0, d1, d2, Rz]) rfl ⟨by unfold sunR sunOk; rw [Hl.out, Eu.out]; rfl, bel_drew (bel_al (bel_new (bel_new (bel_new L _ _ (by omega) _) _ _ (by omega) _) _ _ (by omega) _) _)⟩⟩
theorem sdir_4 (s : ByteArray) (a b c d g f : Int) (w : World) (ra : 0 ≤ a ∧ a < 65536) (rb : 0 ≤ b ∧ b < 65536) (rc : 0 ≤ c ∧ c < 65536) (rd : 0 ≤ d ∧ d < 65536) (rg : 0 ≤ g ∧ g < 65536) (rf : 0 ≤ f ∧ f < 65536) (h0 : ∀ W : World, Calls Tryz.prog 217 #[.string s, .int .i64 0] W fun e w' => e = .returned (.int .i64 a) ∧ Below W.heap.size W w') (h1 : ∀ W : World, Calls Tryz.prog 217 #[.string s, .int .i64 1] W fun e w' => e = .returned (.int .i64 b) ∧ Below W.heap.size W w') (h2 : ∀ W : World, Calls Tryz.prog 217 #[.string s, .int .i64 2] W fun e w' => e = .returned (.int .i64 c) ∧ Below W.heap.size W w') (h3 : ∀ W : World, Calls Tryz.prog 217 #[.string s, .int .i64 3] W fun e w' => e = .returned (.int .i64 d) ∧ Below W.heap.size W w') (h4 : ∀ W : World, Calls Tryz.prog 217 #[.string s, .int .i64 4] W fun e w' => e = .returned (.int .i64 g) ∧ Below W.heap.size W w') (h5 : ∀ W : World, Calls Tryz.prog 217 #[.string s, .int .i64 5] W fun e w' => e = .returned (.int .i64 f) ∧ Below W.heap.size W w') (xa : a < 2000) (xb : b < 2000) (xc : c < 2000) (xd : d < 2000) (xg : 2000 ≤ g) :
    Calls Tryz.prog 197 #[.string s] w fun e w' => e = .returned (.tuple #[vecV (sunR a b c d g f), .bool (sunOk a b c d g f)]) ∧ Below w.heap.size w w' := by
 have Hl : Hid (lit a b c d g f = true) := by show _ = _; unfold lit; simp; omega
 go_enter Tryz.func197, Tryz.ntmps197
 go_wp2_with fail
 refine wp_loop_rounds 4 ?_
 refine rounds_letter (S := fun W => Below w.heap.size w W ∧ Arr (w.heap.size) [.int .i64 0, .int .i64 0, .int .i64 0] W ∧ Arr (w.heap.size + 1) [.int .i64 0, .int .i64 0, .int .i64 0] W) ⟨bel_al (bel_al (Below.refl _ _) _) _, (Arr_at w w.heap.size [.int .i64 0, .int .i64 0, .int .i64 0] _ rfl).alloc _, Arr_at _ (w.heap.size + 1) [.int .i64 0, .int .i64 0, .int .i64 0] _ (by simp)⟩ ?_
 rintro W1 ⟨L1, R1, V1⟩
 have Rz1 := R1.lies
 have Vz1 := V1.lies
 rw [rounds_succ]
 go_wp2_with fail
 refine (h0 _).mono ?_
 rintro e W2 ⟨rfl, k⟩
 have L2 := bel_then L1 k
 have R2 := R1.below k
 have V2 := V1.below k
 have Rz2 := R2.lies
 have Vz2 := V2.lies
 clear k L1 R1 V1 Rz1 Vz1
 go_wp2_with fail
 refine (h1 _).mono ?_
 rintro e W3 ⟨rfl, k⟩
 have L3 := bel_then L2 k
 have R3 := R2.below k
 have V3 := V2.below k
 have Rz3 := R3.lies
 have Vz3 := V3.lies
 clear k L2 R2 V2 Rz2 Vz2
 have cV_0 : W3.cell? ⟨w.heap.size + 1, 0, none⟩ = some (.int .i64 0) := V3.c 0 (zD rfl)
 have gV_0 := V3.f 0 (zD rfl)
 go_wp2_with fail
 clear cV_0 gV_0
 refine rounds_letter (S := fun W => Below w.heap.size w W ∧ Arr (w.heap.size) [.int .i64 0, .int .i64 0, .int .i64 0] W ∧ Arr (w.heap.size + 1) [.int .i64 ((a - b) * 16777216), .int .i64 0, .int .i64 0] W) ⟨bel_new L3 _ _ (by omega) _, R3.new _ _ (by omega) _, V3.put 0 (zD rfl) (.int .i64 ((a - b) * 16777216)) [.int .i64 ((a - b) * 16777216), .int .i64 0, .int .i64 0] rfl⟩ ?_
 rintro W4 ⟨L4, R4, V4⟩
 have Rz4 := R4.lies
 have Vz4 := V4.lies
 rw [rounds_succ]
 go_wp2_with fail
 refine (h2 _).mono ?_
 rintro e W5 ⟨rfl, k⟩
 have L5 := bel_then L4 k
 have R5 := R4.below k
 have V5 := V4.below k
 have Rz5 := R5.lies
 have Vz5 := V5.lies
 clear k L4 R4 V4 Rz4 Vz4
 go_wp2_with fail
 refine (h3 _).mono ?_
 rintro e W6 ⟨rfl, k⟩
 have L6 := bel_then L5 k
 have R6 := R5.below k
 have V6 := V5.below k
 have Rz6 := R6.lies
 have Vz6 := V6.lies
 clear k L5 R5 V5 Rz5 Vz5
 have cV_1 : W6.cell? ⟨w.heap.size + 1, 1, none⟩ = some (.int .i64 0) := V6.c 1 (zD rfl)
 have gV_1 := V6.f 1 (zD rfl)
 go_wp2_with fail
 clear cV_1 gV_1
 refine rounds_letter (S := fun W => Below w.heap.size w W ∧ Arr (w.heap.size) [.int .i64 0, .int .i64 0, .int .i64 0] W ∧ Arr (w.heap.size + 1) [.int .i64 ((a - b) * 16777216), .int .i64 ((c - d) * 16777216), .int .i64 0] W) ⟨bel_new L6 _ _ (by omega) _, R6.new _ _ (by omega) _, V6.put 1 (zD rfl) (.int .i64 ((c - d) * 16777216)) [.int .i64 ((a - b) * 16777216), .int .i64 ((c - d) * 16777216), .int .i64 0] rfl⟩ ?_
 rintro W7 ⟨L7, R7, V7⟩
 have Rz7 := R7.lies
 have Vz7 := V7.lies
 rw [rounds_succ]
 go_wp2_with fail
 refine (h4 _).mono ?_
 rintro e W8 ⟨rfl, k⟩
 have L8 := bel_then L7 k
 have R8 := R7.below k
 have V8 := V7.below k
 have Rz8 := R8.lies
 have Vz8 := V8.lies
 clear k L7 R7 V7 Rz7 Vz7
 go_wp2_with fail
 refine (h5 _).mono ?_
 rintro e W9 ⟨rfl, k⟩
 have L9 := bel_then L8 k
 have R9 := R8.below k
 have V9 := V8.below k
 have Rz9 := R9.lies
 have Vz9 := V9.lies
 clear k L8 R8 V8 Rz8 Vz8
 have cV_2 : W9.cell? ⟨w.heap.size + 1, 2, none⟩ = some (.int .i64 0) := V9.c 2 (zD rfl)
 have gV_2 := V9.f 2 (zD rfl)
 go_wp2_with fail
 clear cV_2 gV_2
 refine rounds_letter (S := fun W => Below w.heap.size w W ∧ Arr (w.heap.size) [.int .i64 0, .int .i64 0, .int .i64 0] W ∧ Arr (w.heap.size + 1) [.int .i64 ((a - b) * 16777216), .int .i64 ((c - d) * 16777216), .int .i64 ((g - f) * 16777216)] W) ⟨bel_new L9 _ _ (by omega) _, R9.new _ _ (by omega) _, V9.put 2 (zD rfl) (.int .i64 ((g - f) * 16777216)) [.int .i64 ((a - b) * 16777216), .int .i64 ((c - d) * 16777216), .int .i64 ((g - f) * 16777216)] rfl⟩ ?_
 rintro W10 ⟨L10, R10, V10⟩
 have Rz10 := R10.lies
 have Vz10 := V10.lies
 rw [rounds_succ]
 have cV_0 : W10.cell? ⟨w.heap.size + 1, 0, none⟩ = some (.int .i64 ((a - b) * 16777216)) := V10.c 0 (zD rfl)
 have cV_1 : W10.cell? ⟨w.heap.size + 1, 1, none⟩ = some (.int .i64 ((c - d) * 16777216)) := V10.c 1 (zD rfl)
 have cV_2 : W10.cell? ⟨w.heap.size + 1, 2, none⟩ = some (.int .i64 ((g - f) * 16777216)) := V10.c 2 (zD rfl)
 go_wp2_with fail
 refine (vUnit_any W10.heap.size false ((a - b) * 16777216, (c - d) * 16777216, (g - f) * 16777216) _ (Fl_at _ _ false _ rfl)).mono ?_
 rintro e X ⟨rfl, F, k⟩
 have eu : sunS a b c d g f = vUnitS false ((a - b) * 16777216, (c - d) * 16777216, (g - f) * 16777216) := rfl
 generalize vUnitS false ((a - b) * 16777216, (c - d) * 16777216, (g - f) * 16777216) = u at F eu ⊢
 have Eu : Hid _ := eu
 clear eu
 have L := k.on (bel_al L10 _) (L10.size)
 have R := (R10.alloc _).kept k (by omega)
 have Fc := F.cell
 have Fz := F.lies
 have Rz := R.lies
 clear k cV_0 cV_1 cV_2
 have cR_0 : X.cell? ⟨w.heap.size, 0, none⟩ = some (.int .i64 0) := R.c 0 (zD rfl)
 have cR_1 : X.cell? ⟨w.heap.size, 1, none⟩ = some (.int .i64 0) := R.c 1 (zD rfl)
 have cR_2 : X.cell? ⟨w.heap.size, 2, none⟩ = some (.int .i64 0) := R.c 2 (zD rfl)
 have gR_0 := R.f 0 (zD rfl)
 have gR_1 := R.f 1 (zD rfl)
 have gR_2 := R.f 2 (zD rfl)
 go_wp2_with fail
 go_region
 go_wp2_with (with_reducible refine post_stop ?_)
 have d0 := Arr.c (((R.put 0 (zD rfl) (.int .i64 u.1.1) [.int .i64 u.1.1, .int .i64 0, .int .i64 0] rfl).put 1 (zD rfl) (.int .i64 u.1.2.1) [.int .i64 u.1.1, .int .i64 u.1.2.1, .int .i64 0] rfl).put 2 (zD rfl) (.int .i64 u.1.2.2) [.int .i64 u.1.1, .int .i64 u.1.2.1, .int .i64 u.1.2.2] rfl) 0 (zD rfl)
 have d1 := Arr.c (((R.put 0 (zD rfl) (.int .i64 u.1.1) [.int .i64 u.1.1, .int .i64 0, .int .i64 0] rfl).put 1 (zD rfl) (.int .i64 u.1.2.1) [.int .i64 u.1.1, .int .i64 u.1.2.1, .int .i64 0] rfl).put 2 (zD rfl) (.int .i64 u.1.2.2) [.int .i64 u.1.1, .int .i64 u.1.2.1, .int .i64 u.1.2.2] rfl) 1 (zD rfl)
 have d2 := Arr.c (((R.put 0 (zD rfl) (.int .i64 u.1.1) [.int .i64 u.1.1, .int .i64 0, .int .i64 0] rfl).put 1 (zD rfl) (.int .i64 u.1.2.1) [.int .i64 u.1.1, .int .i64 u.1.2.1, .int .i64 0] rfl).put 2 (zD rfl) (.int .i64 u.1.2.2) [.int .i64 u.1.1, .int .i64 u.1.2.1, .int .i64 u.1.2.2] rfl) 2 (zD rfl)
 simp only [List.getElem_cons_zero, List.getElem_cons_succ] at d0 d1 d2
 refine ⟨bodyPost_ret (v := .tuple #[.agg #[.int .i64 u.1.1, .int .i64 u.1.2.1, .int .i64 u.1.2.2], .bool (!u.2)]) (by simp [results_cell_tmp Tryz.results197, asAddr, go_sem, d0, d1, d2, Rz]) rfl ⟨by unfold sunR sunOk; rw [Hl.out, Eu.out]; rfl, bel_drew (bel_al (bel_new (bel_new (bel_new L _ _ (by omega) _) _ _ (by omega) _) _ _ (by omega) _) _)⟩⟩
theorem sdir_5 (s : ByteArray) (a b c d g f : Int) (w : World) (ra : 0 ≤ a ∧ a < 65536) (rb : 0 ≤ b ∧ b < 65536) (rc : 0 ≤ c ∧ c < 65536) (rd : 0 ≤ d ∧ d < 65536) (rg : 0 ≤ g ∧ g < 65536) (rf : 0 ≤ f ∧ f < 65536) (h0 : ∀ W : World, Calls Tryz.prog 217 #[.string s, .int .i64 0] W fun e w' => e = .returned (.int .i64 a) ∧ Below W.heap.size W w') (h1 : ∀ W : World, Calls Tryz.prog 217 #[.string s, .int .i64 1] W fun e w' => e = .returned (.int .i64 b) ∧ Below W.heap.size W w') (h2 : ∀ W : World, Calls Tryz.prog 217 #[.string s, .int .i64 2] W fun e w' => e = .returned (.int .i64 c) ∧ Below W.heap.size W w') (h3 : ∀ W : World, Calls Tryz.prog 217 #[.string s, .int .i64 3] W fun e w' => e = .returned (.int .i64 d) ∧ Below W.heap.size W w') (h4 : ∀ W : World, Calls Tryz.prog 217 #[.string s, .int .i64 4] W fun e w' => e = .returned (.int .i64 g) ∧ Below W.heap.size W w') (h5 : ∀ W : World, Calls Tryz.prog 217 #[.string s, .int .i64 5] W fun e w' => e = .returned (.int .i64 f) ∧ Below W.heap.size W w') (xa : a < 2000) (xb : b < 2000) (xc : c < 2000) (xd : d < 2000) (xg : g < 2000) (xf : 2000 ≤ f) :
    Calls Tryz.prog 197 #[.string s] w fun e w' => e = .returned (.tuple #[vecV (sunR a b c d g f), .bool (sunOk a b c d g f)]) ∧ Below w.heap.size w w' := by
 have Hl : Hid (lit a b c d g f = true) := by show _ = _; unfold lit; simp; omega
 go_enter Tryz.func197, Tryz.ntmps197
 go_wp2_with fail
 refine wp_loop_rounds 4 ?_
 refine rounds_letter (S := fun W => Below w.heap.size w W ∧ Arr (w.heap.size) [.int .i64 0, .int .i64 0, .int .i64 0] W ∧ Arr (w.heap.size + 1) [.int .i64 0, .int .i64 0, .int .i64 0] W) ⟨bel_al (bel_al (Below.refl _ _) _) _, (Arr_at w w.heap.size [.int .i64 0, .int .i64 0, .int .i64 0] _ rfl).alloc _, Arr_at _ (w.heap.size + 1) [.int .i64 0, .int .i64 0, .int .i64 0] _ (by simp)⟩ ?_
 rintro W1 ⟨L1, R1, V1⟩
 have Rz1 := R1.lies
 have Vz1 := V1.lies
 rw [rounds_succ]
 go_wp2_with fail
 refine (h0 _).mono ?_
 rintro e W2 ⟨rfl, k⟩
 have L2 := bel_then L1 k
 have R2 := R1.below k
 have V2 := V1.below k
 have Rz2 := R2.lies
 have Vz2 := V2.lies
 clear k L1 R1 V1 Rz1 Vz1
 go_wp2_with fail
 refine (h1 _).mono ?_
 rintro e W3 ⟨rfl, k⟩
 have L3 := bel_then L2 k
 have R3 := R2.below k
 have V3 := V2.below k
 have Rz3 := R3.lies
 have Vz3 := V3.lies
 clear k L2 R2 V2 Rz2 Vz2
 have cV_0 : W3.cell? ⟨w.heap.size + 1, 0, none⟩ = some (.int .i64 0) := V3.c 0 (zD rfl)
 have gV_0 := V3.f 0 (zD rfl)
 go_wp2_with fail
 clear cV_0 gV_0
 refine rounds_letter (S := fun W => Below w.heap.size w W ∧ Arr (w.heap.size) [.int .i64 0, .int .i64 0, .int .i64 0] W ∧ Arr (w.heap.size + 1) [.int .i64 ((a - b) * 16777216), .int .i64 0, .int .i64 0] W) ⟨bel_new L3 _ _ (by omega) _, R3.new _ _ (by omega) _, V3.put 0 (zD rfl) (.int .i64 ((a - b) * 16777216)) [.int .i64 ((a - b) * 16777216), .int .i64 0, .int .i64 0] rfl⟩ ?_
 rintro W4 ⟨L4, R4, V4⟩
 have Rz4 := R4.lies
 have Vz4 := V4.lies
 rw [rounds_succ]
 go_wp2_with fail
 refine (h2 _).mono ?_
 rintro e W5 ⟨rfl, k⟩
 have L5 := bel_then L4 k
 have R5 := R4.below k
 have V5 := V4.below k
 have Rz5 := R5.lies
 have Vz5 := V5.lies
 clear k L4 R4 V4 Rz4 Vz4
 go_wp2_with fail
 refine (h3 _).mono ?_
 rintro e W6 ⟨rfl, k⟩
 have L6 := bel_then L5 k
 have R6 := R5.below k
 have V6 := V5.below k
 have Rz6 := R6.lies
 have Vz6 := V6.lies
 clear k L5 R5 V5 Rz5 Vz5
 have cV_1 : W6.cell? ⟨w.heap.size + 1, 1, none⟩ = some (.int .i64 0) := V6.c 1 (zD rfl)
 have gV_1 := V6.f 1 (zD rfl)
 go_wp2_with fail
 clear cV_1 gV_1
 refine rounds_letter (S := fun W => Below w.heap.size w W ∧ Arr (w.heap.size) [.int .i64 0, .int .i64 0, .int .i64 0] W ∧ Arr (w.heap.size + 1) [.int .i64 ((a - b) * 16777216), .int .i64 ((c - d) * 16777216), .int .i64 0] W) ⟨bel_new L6 _ _ (by omega) _, R6.new _ _ (by omega) _, V6.put 1 (zD rfl) (.int .i64 ((c - d) * 16777216)) [.int .i64 ((a - b) * 16777216), .int .i64 ((c - d) * 16777216), .int .i64 0] rfl⟩ ?_
 rintro W7 ⟨L7, R7, V7⟩
 have Rz7 := R7.lies
 have Vz7 := V7.lies
 rw [rounds_succ]
 go_wp2_with fail
 refine (h4 _).mono ?_
 rintro e W8 ⟨rfl, k⟩
 have L8 := bel_then L7 k
 have R8 := R7.below k
 have V8 := V7.below k
 have Rz8 := R8.lies
 have Vz8 := V8.lies
 clear k L7 R7 V7 Rz7 Vz7
 go_wp2_with fail
 refine (h5 _).mono ?_
 rintro e W9 ⟨rfl, k⟩
 have L9 := bel_then L8 k
 have R9 := R8.below k
 have V9 := V8.below k
 have Rz9 := R9.lies
 have Vz9 := V9.lies
 clear k L8 R8 V8 Rz8 Vz8
 have cV_2 : W9.cell? ⟨w.heap.size + 1, 2, none⟩ = some (.int .i64 0) := V9.c 2 (zD rfl)
 have gV_2 := V9.f 2 (zD rfl)
 go_wp2_with fail
 clear cV_2 gV_2
 refine rounds_letter (S := fun W => Below w.heap.size w W ∧ Arr (w.heap.size) [.int .i64 0, .int .i64 0, .int .i64 0] W ∧ Arr (w.heap.size + 1) [.int .i64 ((a - b) * 16777216), .int .i64 ((c - d) * 16777216), .int .i64 ((g - f) * 16777216)] W) ⟨bel_new L9 _ _ (by omega) _, R9.new _ _ (by omega) _, V9.put 2 (zD rfl) (.int .i64 ((g - f) * 16777216)) [.int .i64 ((a - b) * 16777216), .int .i64 ((c - d) * 16777216), .int .i64 ((g - f) * 16777216)] rfl⟩ ?_
 rintro W10 ⟨L10, R10, V10⟩
 have Rz10 := R10.lies
 have Vz10 := V10.lies
 rw [rounds_succ]
 have cV_0 : W10.cell? ⟨w.heap.size + 1, 0, none⟩ = some (.int .i64 ((a - b) * 16777216)) := V10.c 0 (zD rfl)
 have cV_1 : W10.cell? ⟨w.heap.size + 1, 1, none⟩ = some (.int .i64 ((c - d) * 16777216)) := V10.c 1 (zD rfl)
 have cV_2 : W10.cell? ⟨w.heap.size + 1, 2, none⟩ = some (.int .i64 ((g - f) * 16777216)) := V10.c 2 (zD rfl)
 go_wp2_with fail
 refine (vUnit_any W10.heap.size false ((a - b) * 16777216, (c - d) * 16777216, (g - f) * 16777216) _ (Fl_at _ _ false _ rfl)).mono ?_
 rintro e X ⟨rfl, F, k⟩
 have eu : sunS a b c d g f = vUnitS false ((a - b) * 16777216, (c - d) * 16777216, (g - f) * 16777216) := rfl
 generalize vUnitS false ((a - b) * 16777216, (c - d) * 16777216, (g - f) * 16777216) = u at F eu ⊢
 have Eu : Hid _ := eu
 clear eu
 have L := k.on (bel_al L10 _) (L10.size)
 have R := (R10.alloc _).kept k (by omega)
 have Fc := F.cell
 have Fz := F.lies
 have Rz := R.lies
 clear k cV_0 cV_1 cV_2
 have cR_0 : X.cell? ⟨w.heap.size, 0, none⟩ = some (.int .i64 0) := R.c 0 (zD rfl)
 have cR_1 : X.cell? ⟨w.heap.size, 1, none⟩ = some (.int .i64 0) := R.c 1 (zD rfl)
 have cR_2 : X.cell? ⟨w.heap.size, 2, none⟩ = some (.int .i64 0) := R.c 2 (zD rfl)
 have gR_0 := R.f 0 (zD rfl)
 have gR_1 := R.f 1 (zD rfl)
 have gR_2 := R.f 2 (zD rfl)
 go_wp2_with fail
 go_region
 go_wp2_with (with_reducible refine post_stop ?_)
 have d0 := Arr.c (((R.put 0 (zD rfl) (.int .i64 u.1.1) [.int .i64 u.1.1, .int .i64 0, .int .i64 0] rfl).put 1 (zD rfl) (.int .i64 u.1.2.1) [.int .i64 u.1.1, .int .i64 u.1.2.1, .int .i64 0] rfl).put 2 (zD rfl) (.int .i64 u.1.2.2) [.int .i64 u.1.1, .int .i64 u.1.2.1, .int .i64 u.1.2.2] rfl) 0 (zD rfl)
 have d1 := Arr.c (((R.put 0 (zD rfl) (.int .i64 u.1.1) [.int .i64 u.1.1, .int .i64 0, .int .i64 0] rfl).put 1 (zD rfl) (.int .i64 u.1.2.1) [.int .i64 u.1.1, .int .i64 u.1.2.1, .int .i64 0] rfl).put 2 (zD rfl) (.int .i64 u.1.2.2) [.int .i64 u.1.1, .int .i64 u.1.2.1, .int .i64 u.1.2.2] rfl) 1 (zD rfl)
 have d2 := Arr.c (((R.put 0 (zD rfl) (.int .i64 u.1.1) [.int .i64 u.1.1, .int .i64 0, .int .i64 0] rfl).put 1 (zD rfl) (.int .i64 u.1.2.1) [.int .i64 u.1.1, .int .i64 u.1.2.1, .int .i64 0] rfl).put 2 (zD rfl) (.int .i64 u.1.2.2) [.int .i64 u.1.1, .int .i64 u.1.2.1, .int .i64 u.1.2.2] rfl) 2 (zD rfl)
 simp only [List.getElem_cons_zero, List.getElem_cons_succ] at d0 d1 d2
 refine ⟨bodyPost_ret (v := .tuple #[.agg #[.int .i64 u.1.1, .int .i64 u.1.2.1, .int .i64 u.1.2.2], .bool (!u.2)]) (by simp [results_cell_tmp Tryz.results197, asAddr, go_sem, d0, d1, d2, Rz]) rfl ⟨by unfold sunR sunOk; rw [Hl.out, Eu.out]; rfl, bel_drew (bel_al (bel_new (bel_new (bel_new L _ _ (by omega) _) _ _ (by omega) _) _ _ (by omega) _) _)⟩⟩
theorem sdir_None (s : ByteArray) (a b c d g f : Int) (w : World) (ra : 0 ≤ a ∧ a < 65536) (rb : 0 ≤ b ∧ b < 65536) (rc : 0 ≤ c ∧ c < 65536) (rd : 0 ≤ d ∧ d < 65536) (rg : 0 ≤ g ∧ g < 65536) (rf : 0 ≤ f ∧ f < 65536) (h0 : ∀ W : World, Calls Tryz.prog 217 #[.string s, .int .i64 0] W fun e w' => e = .returned (.int .i64 a) ∧ Below W.heap.size W w') (h1 : ∀ W : World, Calls Tryz.prog 217 #[.string s, .int .i64 1] W fun e w' => e = .returned (.int .i64 b) ∧ Below W.heap.size W w') (h2 : ∀ W : World, Calls Tryz.prog 217 #[.string s, .int .i64 2] W fun e w' => e = .returned (.int .i64 c) ∧ Below W.heap.size W w') (h3 : ∀ W : World, Calls Tryz.prog 217 #[.string s, .int .i64 3] W fun e w' => e = .returned (.int .i64 d) ∧ Below W.heap.size W w') (h4 : ∀ W : World, Calls Tryz.prog 217 #[.string s, .int .i64 4] W fun e w' => e = .returned (.int .i64 g) ∧ Below W.heap.size W w') (h5 : ∀ W : World, Calls Tryz.prog 217 #[.string s, .int .i64 5] W fun e w' => e = .returned (.int .i64 f) ∧ Below W.heap.size W w') (xa : a < 2000) (xb : b < 2000) (xc : c < 2000) (xd : d < 2000) (xg : g < 2000) (xf : f < 2000) :
    Calls Tryz.prog 197 #[.string s] w fun e w' => e = .returned (.tuple #[vecV (sunR a b c d g f), .bool (sunOk a b c d g f)]) ∧ Below w.heap.size w w' := by
 have Hl : Hid (lit a b c d g f = false) := by show _ = _; unfold lit; simp; omega
 go_enter Tryz.func197, Tryz.ntmps197
 go_wp2_with fail
 refine wp_loop_rounds 4 ?_
 refine rounds_letter (S := fun W => Below w.heap.size w W ∧ Arr (w.heap.size) [.int .i64 0, .int .i64 0, .int .i64 0] W ∧ Arr (w.heap.size + 1) [.int .i64 0, .int .i64 0, .int .i64 0] W) ⟨bel_al (bel_al (Below.refl _ _) _) _, (Arr_at w w.heap.size [.int .i64 0, .int .i64 0, .int .i64 0] _ rfl).alloc _, Arr_at _ (w.heap.size + 1) [.int .i64 0, .int .i64 0, .int .i64 0] _ (by simp)⟩ ?_
 rintro W1 ⟨L1, R1, V1⟩
 have Rz1 := R1.lies
 have Vz1 := V1.lies
 rw [rounds_succ]
 go_wp2_with fail
 refine (h0 _).mono ?_
 rintro e W2 ⟨rfl, k⟩
 have L2 := bel_then L1 k
 have R2 := R1.below k
 have V2 := V1.below k
 have Rz2 := R2.lies
 have Vz2 := V2.lies
 clear k L1 R1 V1 Rz1 Vz1
 go_wp2_with fail
 refine (h1 _).mono ?_
 rintro e W3 ⟨rfl, k⟩
 have L3 := bel_then L2 k
 have R3 := R2.below k
 have V3 := V2.below k
 have Rz3 := R3.lies
 have Vz3 := V3.lies
 clear k L2 R2 V2 Rz2 Vz2
 have cV_0 : W3.cell? ⟨w.heap.size + 1, 0, none⟩ = some (.int .i64 0) := V3.c 0 (zD rfl)
 have gV_0 := V3.f 0 (zD rfl)
 go_wp2_with fail
 clear cV_0 gV_0
 refine rounds_letter (S := fun W => Below w.heap.size w W ∧ Arr (w.heap.size) [.int .i64 0, .int .i64 0, .int .i64 0] W ∧ Arr (w.heap.size + 1) [.int .i64 ((a - b) * 16777216), .int .i64 0, .int .i64 0] W) ⟨bel_new L3 _ _ (by omega) _, R3.new _ _ (by omega) _, V3.put 0 (zD rfl) (.int .i64 ((a - b) * 16777216)) [.int .i64 ((a - b) * 16777216), .int .i64 0, .int .i64 0] rfl⟩ ?_
 rintro W4 ⟨L4, R4, V4⟩
 have Rz4 := R4.lies
 have Vz4 := V4.lies
 rw [rounds_succ]
 go_wp2_with fail
 refine (h2 _).mono ?_
 rintro e W5 ⟨rfl, k⟩
 have L5 := bel_then L4 k
 have R5 := R4.below k
 have V5 := V4.below k
 have Rz5 := R5.lies
 have Vz5 := V5.lies
 clear k L4 R4 V4 Rz4 Vz4
 go_wp2_with fail
 refine (h3 _).mono ?_
 rintro e W6 ⟨rfl, k⟩
 have L6 := bel_then L5 k
 have R6 := R5.below k
 have V6 := V5.below k
 have Rz6 := R6.lies
 have Vz6 := V6.lies
 clear k L5 R5 V5 Rz5 Vz5
 have cV_1 : W6.cell? ⟨w.heap.size + 1, 1, none⟩ = some (.int .i64 0) := V6.c 1 (zD rfl)
 have gV_1 := V6.f 1 (zD rfl)
 go_wp2_with fail
 clear cV_1 gV_1
 refine rounds_letter (S := fun W => Below w.heap.size w W ∧ Arr (w.heap.size) [.int .i64 0, .int .i64 0, .int .i64 0] W ∧ Arr (w.heap.size + 1) [.int .i64 ((a - b) * 16777216), .int .i64 ((c - d) * 16777216), .int .i64 0] W) ⟨bel_new L6 _ _ (by omega) _, R6.new _ _ (by omega) _, V6.put 1 (zD rfl) (.int .i64 ((c - d) * 16777216)) [.int .i64 ((a - b) * 16777216), .int .i64 ((c - d) * 16777216), .int .i64 0] rfl⟩ ?_
 rintro W7 ⟨L7, R7, V7⟩
 have Rz7 := R7.lies
 have Vz7 := V7.lies
 rw [rounds_succ]
 go_wp2_with fail
 refine (h4 _).mono ?_
 rintro e W8 ⟨rfl, k⟩
 have L8 := bel_then L7 k
 have R8 := R7.below k
 have V8 := V7.below k
 have Rz8 := R8.lies
 have Vz8 := V8.lies
 clear k L7 R7 V7 Rz7 Vz7
 go_wp2_with fail
 refine (h5 _).mono ?_
 rintro e W9 ⟨rfl, k⟩
 have L9 := bel_then L8 k
 have R9 := R8.below k
 have V9 := V8.below k
 have Rz9 := R9.lies
 have Vz9 := V9.lies
 clear k L8 R8 V8 Rz8 Vz8
 have cV_2 : W9.cell? ⟨w.heap.size + 1, 2, none⟩ = some (.int .i64 0) := V9.c 2 (zD rfl)
 have gV_2 := V9.f 2 (zD rfl)
 go_wp2_with fail
 clear cV_2 gV_2
 refine rounds_letter (S := fun W => Below w.heap.size w W ∧ Arr (w.heap.size) [.int .i64 0, .int .i64 0, .int .i64 0] W ∧ Arr (w.heap.size + 1) [.int .i64 ((a - b) * 16777216), .int .i64 ((c - d) * 16777216), .int .i64 ((g - f) * 16777216)] W) ⟨bel_new L9 _ _ (by omega) _, R9.new _ _ (by omega) _, V9.put 2 (zD rfl) (.int .i64 ((g - f) * 16777216)) [.int .i64 ((a - b) * 16777216), .int .i64 ((c - d) * 16777216), .int .i64 ((g - f) * 16777216)] rfl⟩ ?_
 rintro W10 ⟨L10, R10, V10⟩
 have Rz10 := R10.lies
 have Vz10 := V10.lies
 generalize hl0 : (decide (2000 ≤ a) || decide (2000 ≤ b) || decide (2000 ≤ c) || decide (2000 ≤ d) || decide (2000 ≤ g) || decide (2000 ≤ f)) = q
 obtain rfl : q = false := hl0.symm.trans Hl.out
 clear hl0
 rw [rounds_succ]
 have cR_0 : W10.cell? ⟨w.heap.size, 0, none⟩ = some (.int .i64 0) := R10.c 0 (zD rfl)
 have gR_0 := R10.f 0 (zD rfl)
 have cR_1 : W10.cell? ⟨w.heap.size, 1, none⟩ = some (.int .i64 0) := R10.c 1 (zD rfl)
 have gR_1 := R10.f 1 (zD rfl)
 have cR_2 : W10.cell? ⟨w.heap.size, 2, none⟩ = some (.int .i64 0) := R10.c 2 (zD rfl)
 have gR_2 := R10.f 2 (zD rfl)
 go_wp2_with (with_reducible refine post_stop ?_)
 all_goals
  have d0 := Arr.c (((R10.put 0 (zD rfl) (.int .i64 0) [.int .i64 0, .int .i64 0, .int .i64 0] rfl).put 1 (zD rfl) (.int .i64 0) [.int .i64 0, .int .i64 0, .int .i64 0] rfl).put 2 (zD rfl) (.int .i64 0) [.int .i64 0, .int .i64 0, .int .i64 0] rfl) 0 (zD rfl)
  have d1 := Arr.c (((R10.put 0 (zD rfl) (.int .i64 0) [.int .i64 0, .int .i64 0, .int .i64 0] rfl).put 1 (zD rfl) (.int .i64 0) [.int .i64 0, .int .i64 0, .int .i64 0] rfl).put 2 (zD rfl) (.int .i64 0) [.int .i64 0, .int .i64 0, .int .i64 0] rfl) 1 (zD rfl)
  have d2 := Arr.c (((R10.put 0 (zD rfl) (.int .i64 0) [.int .i64 0, .int .i64 0, .int .i64 0] rfl).put 1 (zD rfl) (.int .i64 0) [.int .i64 0, .int .i64 0, .int .i64 0] rfl).put 2 (zD rfl) (.int .i64 0) [.int .i64 0, .int .i64 0, .int .i64 0] rfl) 2 (zD rfl)
  simp only [List.getElem_cons_zero, List.getElem_cons_succ] at d0 d1 d2
  refine ⟨bodyPost_ret (v := .tuple #[.agg #[.int .i64 0, .int .i64 0, .int .i64 0], .bool false]) (by simp [results_cell_tmp Tryz.results197, asAddr, go_sem, d0, d1, d2]) rfl ⟨by unfold sunR sunOk; rw [Hl.out]; rfl, (bel_new (bel_new (bel_new L10 _ _ (by omega) _) _ _ (by omega) _) _ _ (by omega) _)⟩⟩
theorem sdirection_any (s : ByteArray) (w : World) (h : 12 ≤ s.size) :
    Calls Tryz.prog 197 #[.string s] w fun e w' => e = .returned (.tuple #[vecV (sunR (cnt s 0 : Nat) (cnt s 2 : Nat) (cnt s 4 : Nat) (cnt s 6 : Nat) (cnt s 8 : Nat) (cnt s 10 : Nat)), .bool (sunOk (cnt s 0 : Nat) (cnt s 2 : Nat) (cnt s 4 : Nat) (cnt s 6 : Nat) (cnt s 8 : Nat) (cnt s 10 : Nat))]) ∧ Below w.heap.size w w' := by
 have h0 := fun W => splain_any s 0 0 W rfl (by omega) (by omega)
 have h1 := fun W => splain_any s 1 1 W rfl (by omega) (by omega)
 have h2 := fun W => splain_any s 2 2 W rfl (by omega) (by omega)
 have h3 := fun W => splain_any s 3 3 W rfl (by omega) (by omega)
 have h4 := fun W => splain_any s 4 4 W rfl (by omega) (by omega)
 have h5 := fun W => splain_any s 5 5 W rfl (by omega) (by omega)
 simp only [Nat.reduceMul] at h0 h1 h2 h3 h4 h5
 have ra : 0 ≤ ((cnt s 0 : Nat) : Int) ∧ ((cnt s 0 : Nat) : Int) < 65536 := by have := cnt_lt s 0; omega
 generalize ((cnt s 0 : Nat) : Int) = a at h0 ra ⊢
 have rb : 0 ≤ ((cnt s 2 : Nat) : Int) ∧ ((cnt s 2 : Nat) : Int) < 65536 := by have := cnt_lt s 2; omega
 generalize ((cnt s 2 : Nat) : Int) = b at h1 rb ⊢
 have rc : 0 ≤ ((cnt s 4 : Nat) : Int) ∧ ((cnt s 4 : Nat) : Int) < 65536 := by have := cnt_lt s 4; omega
 generalize ((cnt s 4 : Nat) : Int) = c at h2 rc ⊢
 have rd : 0 ≤ ((cnt s 6 : Nat) : Int) ∧ ((cnt s 6 : Nat) : Int) < 65536 := by have := cnt_lt s 6; omega
 generalize ((cnt s 6 : Nat) : Int) = d at h3 rd ⊢
 have rg : 0 ≤ ((cnt s 8 : Nat) : Int) ∧ ((cnt s 8 : Nat) : Int) < 65536 := by have := cnt_lt s 8; omega
 generalize ((cnt s 8 : Nat) : Int) = g at h4 rg ⊢
 have rf : 0 ≤ ((cnt s 10 : Nat) : Int) ∧ ((cnt s 10 : Nat) : Int) < 65536 := by have := cnt_lt s 10; omega
 generalize ((cnt s 10 : Nat) : Int) = f at h5 rf ⊢
 by_cases xa : 2000 ≤ a
 ·exact sdir_0 s a b c d g f w ra rb rc rd rg rf h0 h1 h2 h3 h4 h5 xa
 by_cases xb : 2000 ≤ b
 ·exact sdir_1 s a b c d g f w ra rb rc rd rg rf h0 h1 h2 h3 h4 h5 (by omega) xb
 by_cases xc : 2000 ≤ c
 ·exact sdir_2 s a b c d g f w ra rb rc rd rg rf h0 h1 h2 h3 h4 h5 (by omega) (by omega) xc
 by_cases xd : 2000 ≤ d
 ·exact sdir_3 s a b c d g f w ra rb rc rd rg rf h0 h1 h2 h3 h4 h5 (by omega) (by omega) (by omega) xd
 by_cases xg : 2000 ≤ g
 ·exact sdir_4 s a b c d g f w ra rb rc rd rg rf h0 h1 h2 h3 h4 h5 (by omega) (by omega) (by omega) (by omega) xg
 by_cases xf : 2000 ≤ f
 ·exact sdir_5 s a b c d g f w ra rb rc rd rg rf h0 h1 h2 h3 h4 h5 (by omega) (by omega) (by omega) (by omega) (by omega) xf
 exact sdir_None s a b c d g f w ra rb rc rd rg rf h0 h1 h2 h3 h4 h5 (by omega) (by omega) (by omega) (by omega) (by omega) (by omega)
end Go.Proofs.YtlpkfmfblglceaaGreatDoor
