/- A part. -/
import Derived.LoopN
import Derived.Laws.ResultCell
import Derived.Test.YtlpkfmfblglceaaGreatDoorGU17
import Derived.Test.YtlpkfmfblglceaaGreatDoorGU19
import Derived.Test.YtlpkfmfblglceaaGreatDoorGU11
namespace Go.Proofs.YtlpkfmfblglceaaGreatDoor
open Go.RowKit
set_option maxRecDepth 100000
set_option maxHeartbeats 20000000
def vecV (v : V3) : Value := .agg #[.int .i64 v.1, .int .i64 v.2.1, .int .i64 v.2.2]
def gyroS (a b c : Int) : V3 := if gyroOk a b c then gyroV a b c else (0, 0, 0)
theorem gyroS_yes {a b c : Int} (ha : -30000 ≤ a ∧ a ≤ 30000) (hb : -30000 ≤ b ∧ b ≤ 30000) (hc : -30000 ≤ c ∧ c ≤ 30000) : gyroOk a b c = true ∧ gyroS a b c = (a * 33554432, b * 33554432, c * 33554432) := by
 have e : gyroOk a b c = true := by unfold gyroOk gyroIn; simp; omega
 exact ⟨e, by unfold gyroS; rw [e]; rfl⟩
theorem gyroS_no {a b c : Int} (h : ¬ ((-30000 ≤ a ∧ a ≤ 30000) ∧ (-30000 ≤ b ∧ b ≤ 30000) ∧ (-30000 ≤ c ∧ c ≤ 30000))) : gyroOk a b c = false ∧ gyroS a b c = (0, 0, 0) := by
 have e : gyroOk a b c = false := by
  cases h' : gyroOk a b c
  ·rfl
  ·unfold gyroOk gyroIn at h'
   simp at h'
   omega
 exact ⟨e, by unfold gyroS; rw [e]; rfl⟩
theorem srates_any (s : ByteArray) (w : World) (h : 6 ≤ s.size) :
    Calls Tryz.prog 195 #[.string s] w fun e w' => e = .returned (.tuple #[vecV (gyroS (sg (cnt s 0)) (sg (cnt s 2)) (sg (cnt s 4))), .bool (gyroOk (sg (cnt s 0)) (sg (cnt s 2)) (sg (cnt s 4)))]) ∧ Below w.heap.size w w' := by
 have h0 := fun W => ssigned_any s 0 0 W rfl (by omega) (by omega)
 have h1 := fun W => ssigned_any s 1 1 W rfl (by omega) (by omega)
 have h2 := fun W => ssigned_any s 2 2 W rfl (by omega) (by omega)
 simp only [Nat.reduceMul] at h0 h1 h2
 have ra := sg_rng (cnt_lt s 0)
 have rb := sg_rng (cnt_lt s 2)
 have rc := sg_rng (cnt_lt s 4)
 generalize sg (cnt s 0) = a at h0 ra ⊢
 generalize sg (cnt s 2) = b at h1 rb ⊢
 generalize sg (cnt s 4) = c at h2 rc ⊢
 by_cases ha : -30000 ≤ a ∧ a ≤ 30000
 case neg =>
  rw [(gyroS_no (a := a) (b := b) (c := c) (by omega)).1, (gyroS_no (a := a) (b := b) (c := c) (by omega)).2]
  have hn : (decide (30000 < a) || decide (a < -30000)) = true := by simp; omega
  clear ha
  go_enter Tryz.func195, Tryz.ntmps195
  go_wp2_with fail
  refine wp_loop_rounds 4 ?_
  refine rounds_letter (S := fun W => Below w.heap.size w W ∧ Arr (w.heap.size) [.int .i64 0, .int .i64 0, .int .i64 0] W ∧ Arr (w.heap.size + 1) [.int .i64 0, .int .i64 0, .int .i64 0] W) ⟨bel_al (bel_al (Below.refl _ _) _) _, (Arr_at w w.heap.size [.int .i64 0, .int .i64 0, .int .i64 0] _ rfl).alloc _, Arr_at _ (w.heap.size + 1) [.int .i64 0, .int .i64 0, .int .i64 0] _ (by simp)⟩ ?_
  rintro W1 ⟨L1, R1, V1⟩
  have Rz1 := R1.lies
  have Vz1 := V1.lies
  rw [rounds_succ]
  go_wp2_with fail
  refine (h0 _).mono ?_
  rintro e W2 ⟨rfl, k⟩
  have L2 := bel_then L1 k
  have R2 := R1.below k
  have V2 := V1.below k
  have Rz2 := R2.lies
  have Vz2 := V2.lies
  clear k L1 R1 V1 Rz1 Vz1
  have cR_0 : W2.cell? ⟨w.heap.size, 0, none⟩ = some (.int .i64 0) := R2.c 0 (zD rfl)
  have gR_0 := R2.f 0 (zD rfl)
  have cR_1 : W2.cell? ⟨w.heap.size, 1, none⟩ = some (.int .i64 0) := R2.c 1 (zD rfl)
  have gR_1 := R2.f 1 (zD rfl)
  have cR_2 : W2.cell? ⟨w.heap.size, 2, none⟩ = some (.int .i64 0) := R2.c 2 (zD rfl)
  have gR_2 := R2.f 2 (zD rfl)
  go_wp2_with (with_reducible refine post_stop ?_)
  all_goals
   have d0 := Arr.c (((R2.put 0 (zD rfl) (.int .i64 0) [.int .i64 0, .int .i64 0, .int .i64 0] rfl).put 1 (zD rfl) (.int .i64 0) [.int .i64 0, .int .i64 0, .int .i64 0] rfl).put 2 (zD rfl) (.int .i64 0) [.int .i64 0, .int .i64 0, .int .i64 0] rfl) 0 (zD rfl)
   have d1 := Arr.c (((R2.put 0 (zD rfl) (.int .i64 0) [.int .i64 0, .int .i64 0, .int .i64 0] rfl).put 1 (zD rfl) (.int .i64 0) [.int .i64 0, .int .i64 0, .int .i64 0] rfl).put 2 (zD rfl) (.int .i64 0) [.int .i64 0, .int .i64 0, .int .i64 0] rfl) 1 (zD rfl)
   have d2 := Arr.c (((R2.put 0 (zD rfl) (.int .i64 0) [.int .i64 0, .int .i64 0, .int .i64 0] rfl).put 1 (zD rfl) (.int .i64 0) [.int .i64 0, .int .i64 0, .int .i64 0] rfl).put 2 (zD rfl) (.int .i64 0) [.int .i64 0, .int .i64 0, .int .i64 0] rfl) 2 (zD rfl)
   simp only [List.getElem_cons_zero, List.getElem_cons_succ] at d0 d1 d2
   refine ⟨bodyPost_ret (v := .tuple #[.agg #[.int .i64 0, .int .i64 0, .int .i64 0], .bool false]) (by simp [results_cell_tmp Tryz.results195, asAddr, go_sem, d0, d1, d2]) rfl ⟨rfl, (bel_new (bel_new (bel_new L2 _ _ (by omega) _) _ _ (by omega) _) _ _ (by omega) _)⟩⟩
 by_cases hb : -30000 ≤ b ∧ b ≤ 30000
 case neg =>
  rw [(gyroS_no (a := a) (b := b) (c := c) (by omega)).1, (gyroS_no (a := a) (b := b) (c := c) (by omega)).2]
  have hn : (decide (30000 < b) || decide (b < -30000)) = true := by simp; omega
  clear hb
  go_enter Tryz.func195, Tryz.ntmps195
  go_wp2_with fail
  refine wp_loop_rounds 4 ?_
  refine rounds_letter (S := fun W => Below w.heap.size w W ∧ Arr (w.heap.size) [.int .i64 0, .int .i64 0, .int .i64 0] W ∧ Arr (w.heap.size + 1) [.int .i64 0, .int .i64 0, .int .i64 0] W) ⟨bel_al (bel_al (Below.refl _ _) _) _, (Arr_at w w.heap.size [.int .i64 0, .int .i64 0, .int .i64 0] _ rfl).alloc _, Arr_at _ (w.heap.size + 1) [.int .i64 0, .int .i64 0, .int .i64 0] _ (by simp)⟩ ?_
  rintro W1 ⟨L1, R1, V1⟩
  have Rz1 := R1.lies
  have Vz1 := V1.lies
  rw [rounds_succ]
  go_wp2_with fail
  refine (h0 _).mono ?_
  rintro e W2 ⟨rfl, k⟩
  have L2 := bel_then L1 k
  have R2 := R1.below k
  have V2 := V1.below k
  have Rz2 := R2.lies
  have Vz2 := V2.lies
  clear k L1 R1 V1 Rz1 Vz1
  have cV_0 : W2.cell? ⟨w.heap.size + 1, 0, none⟩ = some (.int .i64 0) := V2.c 0 (zD rfl)
  have gV_0 := V2.f 0 (zD rfl)
  go_wp2_with fail
  clear cV_0 gV_0
  refine rounds_letter (S := fun W => Below w.heap.size w W ∧ Arr (w.heap.size) [.int .i64 0, .int .i64 0, .int .i64 0] W ∧ Arr (w.heap.size + 1) [.int .i64 (a * 33554432), .int .i64 0, .int .i64 0] W) ⟨bel_new L2 _ _ (by omega) _, R2.new _ _ (by omega) _, V2.put 0 (zD rfl) (.int .i64 (a * 33554432)) [.int .i64 (a * 33554432), .int .i64 0, .int .i64 0] rfl⟩ ?_
  rintro W3 ⟨L3, R3, V3⟩
  have Rz3 := R3.lies
  have Vz3 := V3.lies
  rw [rounds_succ]
  go_wp2_with fail
  refine (h1 _).mono ?_
  rintro e W4 ⟨rfl, k⟩
  have L4 := bel_then L3 k
  have R4 := R3.below k
  have V4 := V3.below k
  have Rz4 := R4.lies
  have Vz4 := V4.lies
  clear k L3 R3 V3 Rz3 Vz3
  have cR_0 : W4.cell? ⟨w.heap.size, 0, none⟩ = some (.int .i64 0) := R4.c 0 (zD rfl)
  have gR_0 := R4.f 0 (zD rfl)
  have cR_1 : W4.cell? ⟨w.heap.size, 1, none⟩ = some (.int .i64 0) := R4.c 1 (zD rfl)
  have gR_1 := R4.f 1 (zD rfl)
  have cR_2 : W4.cell? ⟨w.heap.size, 2, none⟩ = some (.int .i64 0) := R4.c 2 (zD rfl)
  have gR_2 := R4.f 2 (zD rfl)
  go_wp2_with (with_reducible refine post_stop ?_)
  all_goals
   have d0 := Arr.c (((R4.put 0 (zD rfl) (.int .i64 0) [.int .i64 0, .int .i64 0, .int .i64 0] rfl).put 1 (zD rfl) (.int .i64 0) [.int .i64 0, .int .i64 0, .int .i64 0] rfl).put 2 (zD rfl) (.int .i64 0) [.int .i64 0, .int .i64 0, .int .i64 0] rfl) 0 (zD rfl)
   have d1 := Arr.c (((R4.put 0 (zD rfl) (.int .i64 0) [.int .i64 0, .int .i64 0, .int .i64 0] rfl).put 1 (zD rfl) (.int .i64 0) [.int .i64 0, .int .i64 0, .int .i64 0] rfl).put 2 (zD rfl) (.int .i64 0) [.int .i64 0, .int .i64 0, .int .i64 0] rfl) 1 (zD rfl)
   have d2 := Arr.c (((R4.put 0 (zD rfl) (.int .i64 0) [.int .i64 0, .int .i64 0, .int .i64 0] rfl).put 1 (zD rfl) (.int .i64 0) [.int .i64 0, .int .i64 0, .int .i64 0] rfl).put 2 (zD rfl) (.int .i64 0) [.int .i64 0, .int .i64 0, .int .i64 0] rfl) 2 (zD rfl)
   simp only [List.getElem_cons_zero, List.getElem_cons_succ] at d0 d1 d2
   refine ⟨bodyPost_ret (v := .tuple #[.agg #[.int .i64 0, .int .i64 0, .int .i64 0], .bool false]) (by simp [results_cell_tmp Tryz.results195, asAddr, go_sem, d0, d1, d2]) rfl ⟨rfl, (bel_new (bel_new (bel_new L4 _ _ (by omega) _) _ _ (by omega) _) _ _ (by omega) _)⟩⟩
 by_cases hc : -30000 ≤ c ∧ c ≤ 30000
 case neg =>
  rw [(gyroS_no (a := a) (b := b) (c := c) (by omega)).1, (gyroS_no (a := a) (b := b) (c := c) (by omega)).2]
  have hn : (decide (30000 < c) || decide (c < -30000)) = true := by simp; omega
  clear hc
  go_enter Tryz.func195, Tryz.ntmps195
  go_wp2_with fail
  refine wp_loop_rounds 4 ?_
  refine rounds_letter (S := fun W => Below w.heap.size w W ∧ Arr (w.heap.size) [.int .i64 0, .int .i64 0, .int .i64 0] W ∧ Arr (w.heap.size + 1) [.int .i64 0, .int .i64 0, .int .i64 0] W) ⟨bel_al (bel_al (Below.refl _ _) _) _, (Arr_at w w.heap.size [.int .i64 0, .int .i64 0, .int .i64 0] _ rfl).alloc _, Arr_at _ (w.heap.size + 1) [.int .i64 0, .int .i64 0, .int .i64 0] _ (by simp)⟩ ?_
  rintro W1 ⟨L1, R1, V1⟩
  have Rz1 := R1.lies
  have Vz1 := V1.lies
  rw [rounds_succ]
  go_wp2_with fail
  refine (h0 _).mono ?_
  rintro e W2 ⟨rfl, k⟩
  have L2 := bel_then L1 k
  have R2 := R1.below k
  have V2 := V1.below k
  have Rz2 := R2.lies
  have Vz2 := V2.lies
  clear k L1 R1 V1 Rz1 Vz1
  have cV_0 : W2.cell? ⟨w.heap.size + 1, 0, none⟩ = some (.int .i64 0) := V2.c 0 (zD rfl)
  have gV_0 := V2.f 0 (zD rfl)
  go_wp2_with fail
  clear cV_0 gV_0
  refine rounds_letter (S := fun W => Below w.heap.size w W ∧ Arr (w.heap.size) [.int .i64 0, .int .i64 0, .int .i64 0] W ∧ Arr (w.heap.size + 1) [.int .i64 (a * 33554432), .int .i64 0, .int .i64 0] W) ⟨bel_new L2 _ _ (by omega) _, R2.new _ _ (by omega) _, V2.put 0 (zD rfl) (.int .i64 (a * 33554432)) [.int .i64 (a * 33554432), .int .i64 0, .int .i64 0] rfl⟩ ?_
  rintro W3 ⟨L3, R3, V3⟩
  have Rz3 := R3.lies
  have Vz3 := V3.lies
  rw [rounds_succ]
  go_wp2_with fail
  refine (h1 _).mono ?_
  rintro e W4 ⟨rfl, k⟩
  have L4 := bel_then L3 k
  have R4 := R3.below k
  have V4 := V3.below k
  have Rz4 := R4.lies
  have Vz4 := V4.lies
  clear k L3 R3 V3 Rz3 Vz3
  have cV_1 : W4.cell? ⟨w.heap.size + 1, 1, none⟩ = some (.int .i64 0) := V4.c 1 (zD rfl)
  have gV_1 := V4.f 1 (zD rfl)
  go_wp2_with fail
  clear cV_1 gV_1
  refine rounds_letter (S := fun W => Below w.heap.size w W ∧ Arr (w.heap.size) [.int .i64 0, .int .i64 0, .int .i64 0] W ∧ Arr (w.heap.size + 1) [.int .i64 (a * 33554432), .int .i64 (b * 33554432), .int .i64 0] W) ⟨bel_new L4 _ _ (by omega) _, R4.new _ _ (by omega) _, V4.put 1 (zD rfl) (.int .i64 (b * 33554432)) [.int .i64 (a * 33554432), .int .i64 (b * 33554432), .int .i64 0] rfl⟩ ?_
  rintro W5 ⟨L5, R5, V5⟩
  have Rz5 := R5.lies
  have Vz5 := V5.lies
  rw [rounds_succ]
  go_wp2_with fail
  refine (h2 _).mono ?_
  rintro e W6 ⟨rfl, k⟩
  have L6 := bel_then L5 k
  have R6 := R5.below k
  have V6 := V5.below k
  have Rz6 := R6.lies
  have Vz6 := V6.lies
  clear k L5 R5 V5 Rz5 Vz5
  have cR_0 : W6.cell? ⟨w.heap.size, 0, none⟩ = some (.int .i64 0) := R6.c 0 (zD rfl)
  have gR_0 := R6.f 0 (zD rfl)
  have cR_1 : W6.cell? ⟨w.heap.size, 1, none⟩ = some (.int .i64 0) := R6.c 1 (zD rfl)
  have gR_1 := R6.f 1 (zD rfl)
  have cR_2 : W6.cell? ⟨w.heap.size, 2, none⟩ = some (.int .i64 0) := R6.c 2 (zD rfl)
  have gR_2 := R6.f 2 (zD rfl)
  go_wp2_with (with_reducible refine post_stop ?_)
  all_goals
   have d0 := Arr.c (((R6.put 0 (zD rfl) (.int .i64 0) [.int .i64 0, .int .i64 0, .int .i64 0] rfl).put 1 (zD rfl) (.int .i64 0) [.int .i64 0, .int .i64 0, .int .i64 0] rfl).put 2 (zD rfl) (.int .i64 0) [.int .i64 0, .int .i64 0, .int .i64 0] rfl) 0 (zD rfl)
   have d1 := Arr.c (((R6.put 0 (zD rfl) (.int .i64 0) [.int .i64 0, .int .i64 0, .int .i64 0] rfl).put 1 (zD rfl) (.int .i64 0) [.int .i64 0, .int .i64 0, .int .i64 0] rfl).put 2 (zD rfl) (.int .i64 0) [.int .i64 0, .int .i64 0, .int .i64 0] rfl) 1 (zD rfl)
   have d2 := Arr.c (((R6.put 0 (zD rfl) (.int .i64 0) [.int .i64 0, .int .i64 0, .int .i64 0] rfl).put 1 (zD rfl) (.int .i64 0) [.int .i64 0, .int .i64 0, .int .i64 0] rfl).put 2 (zD rfl) (.int .i64 0) [.int .i64 0, .int .i64 0, .int .i64 0] rfl) 2 (zD rfl)
   simp only [List.getElem_cons_zero, List.getElem_cons_succ] at d0 d1 d2
   refine ⟨bodyPost_ret (v := .tuple #[.agg #[.int .i64 0, .int .i64 0, .int .i64 0], .bool false]) (by simp [results_cell_tmp Tryz.results195, asAddr, go_sem, d0, d1, d2]) rfl ⟨rfl, (bel_new (bel_new (bel_new L6 _ _ (by omega) _) _ _ (by omega) _) _ _ (by omega) _)⟩⟩
 rw [(gyroS_yes ha hb hc).1, (gyroS_yes ha hb hc).2]
 go_enter Tryz.func195, Tryz.ntmps195
 go_wp2_with fail
 refine wp_loop_rounds 4 ?_
 refine rounds_letter (S := fun W => Below w.heap.size w W ∧ Arr (w.heap.size) [.int .i64 0, .int .i64 0, .int .i64 0] W ∧ Arr (w.heap.size + 1) [.int .i64 0, .int .i64 0, .int .i64 0] W) ⟨bel_al (bel_al (Below.refl _ _) _) _, (Arr_at w w.heap.size [.int .i64 0, .int .i64 0, .int .i64 0] _ rfl).alloc _, Arr_at _ (w.heap.size + 1) [.int .i64 0, .int .i64 0, .int .i64 0] _ (by simp)⟩ ?_
 rintro W1 ⟨L1, R1, V1⟩
 have Rz1 := R1.lies
 have Vz1 := V1.lies
 rw [rounds_succ]
 go_wp2_with fail
 refine (h0 _).mono ?_
 rintro e W2 ⟨rfl, k⟩
 have L2 := bel_then L1 k
 have R2 := R1.below k
 have V2 := V1.below k
 have Rz2 := R2.lies
 have Vz2 := V2.lies
 clear k L1 R1 V1 Rz1 Vz1
 have cV_0 : W2.cell? ⟨w.heap.size + 1, 0, none⟩ = some (.int .i64 0) := V2.c 0 (zD rfl)
 have gV_0 := V2.f 0 (zD rfl)
 go_wp2_with fail
 clear cV_0 gV_0
 refine rounds_letter (S := fun W => Below w.heap.size w W ∧ Arr (w.heap.size) [.int .i64 0, .int .i64 0, .int .i64 0] W ∧ Arr (w.heap.size + 1) [.int .i64 (a * 33554432), .int .i64 0, .int .i64 0] W) ⟨bel_new L2 _ _ (by omega) _, R2.new _ _ (by omega) _, V2.put 0 (zD rfl) (.int .i64 (a * 33554432)) [.int .i64 (a * 33554432), .int .i64 0, .int .i64 0] rfl⟩ ?_
 rintro W3 ⟨L3, R3, V3⟩
 have Rz3 := R3.lies
 have Vz3 := V3.lies
 rw [rounds_succ]
 go_wp2_with fail
 refine (h1 _).mono ?_
 rintro e W4 ⟨rfl, k⟩
 have L4 := bel_then L3 k
 have R4 := R3.below k
 have V4 := V3.below k
 have Rz4 := R4.lies
 have Vz4 := V4.lies
 clear k L3 R3 V3 Rz3 Vz3
 have cV_1 : W4.cell? ⟨w.heap.size + 1, 1, none⟩ = some (.int .i64 0) := V4.c 1 (zD rfl)
 have gV_1 := V4.f 1 (zD rfl)
 go_wp2_with fail
 clear cV_1 gV_1
 refine rounds_letter (S := fun W => Below w.heap.size w W ∧ Arr (w.heap.size) [.int .i64 0, .int .i64 0, .int .i64 0] W ∧ Arr (w.heap.size + 1) [.int .i64 (a * 33554432), .int .i64 (b * 33554432), .int .i64 0] W) ⟨bel_new L4 _ _ (by omega) _, R4.new _ _ (by omega) _, V4.put 1 (zD rfl) (.int .i64 (b * 33554432)) [.int .i64 (a * 33554432), .int .i64 (b * 33554432), .int .i64 0] rfl⟩ ?_
 rintro W5 ⟨L5, R5, V5⟩
 have Rz5 := R5.lies
 have Vz5 := V5.lies
 rw [rounds_succ]
 go_wp2_with fail
 refine (h2 _).mono ?_
 rintro e W6 ⟨rfl, k⟩
 have L6 := bel_then L5 k
 have R6 := R5.below k
 have V6 := V5.below k
 have Rz6 := R6.lies
 have Vz6 := V6.lies
 clear k L5 R5 V5 Rz5 Vz5
 have cV_2 : W6.cell? ⟨w.heap.size + 1, 2, none⟩ = some (.int .i64 0) := V6.c 2 (zD rfl)
 have gV_2 := V6.f 2 (zD rfl)
 go_wp2_with fail
 clear cV_2 gV_2
 refine rounds_letter (S := fun W => Below w.heap.size w W ∧ Arr (w.heap.size) [.int .i64 0, .int .i64 0, .int .i64 0] W ∧ Arr (w.heap.size + 1) [.int .i64 (a * 33554432), .int .i64 (b * 33554432), .int .i64 (c * 33554432)] W) ⟨bel_new L6 _ _ (by omega) _, R6.new _ _ (by omega) _, V6.put 2 (zD rfl) (.int .i64 (c * 33554432)) [.int .i64 (a * 33554432), .int .i64 (b * 33554432), .int .i64 (c * 33554432)] rfl⟩ ?_
 rintro W7 ⟨L7, R7, V7⟩
 have Rz7 := R7.lies
 have Vz7 := V7.lies
 rw [rounds_succ]
 have cV_0 : W7.cell? ⟨w.heap.size + 1, 0, none⟩ = some (.int .i64 (a * 33554432)) := V7.c 0 (zD rfl)
 have gV_0 := V7.f 0 (zD rfl)
 have cV_1 : W7.cell? ⟨w.heap.size + 1, 1, none⟩ = some (.int .i64 (b * 33554432)) := V7.c 1 (zD rfl)
 have gV_1 := V7.f 1 (zD rfl)
 have cV_2 : W7.cell? ⟨w.heap.size + 1, 2, none⟩ = some (.int .i64 (c * 33554432)) := V7.c 2 (zD rfl)
 have gV_2 := V7.f 2 (zD rfl)
 have cR_0 : W7.cell? ⟨w.heap.size, 0, none⟩ = some (.int .i64 0) := R7.c 0 (zD rfl)
 have gR_0 := R7.f 0 (zD rfl)
 have cR_1 : W7.cell? ⟨w.heap.size, 1, none⟩ = some (.int .i64 0) := R7.c 1 (zD rfl)
 have gR_1 := R7.f 1 (zD rfl)
 have cR_2 : W7.cell? ⟨w.heap.size, 2, none⟩ = some (.int .i64 0) := R7.c 2 (zD rfl)
 have gR_2 := R7.f 2 (zD rfl)
 go_wp2_with (with_reducible refine post_stop ?_)
 all_goals
  have d0 := Arr.c (((R7.put 0 (zD rfl) (.int .i64 (a * 33554432)) [.int .i64 (a * 33554432), .int .i64 0, .int .i64 0] rfl).put 1 (zD rfl) (.int .i64 (b * 33554432)) [.int .i64 (a * 33554432), .int .i64 (b * 33554432), .int .i64 0] rfl).put 2 (zD rfl) (.int .i64 (c * 33554432)) [.int .i64 (a * 33554432), .int .i64 (b * 33554432), .int .i64 (c * 33554432)] rfl) 0 (zD rfl)
  have d1 := Arr.c (((R7.put 0 (zD rfl) (.int .i64 (a * 33554432)) [.int .i64 (a * 33554432), .int .i64 0, .int .i64 0] rfl).put 1 (zD rfl) (.int .i64 (b * 33554432)) [.int .i64 (a * 33554432), .int .i64 (b * 33554432), .int .i64 0] rfl).put 2 (zD rfl) (.int .i64 (c * 33554432)) [.int .i64 (a * 33554432), .int .i64 (b * 33554432), .int .i64 (c * 33554432)] rfl) 1 (zD rfl)
  have d2 := Arr.c (((R7.put 0 (zD rfl) (.int .i64 (a * 33554432)) [.int .i64 (a * 33554432), .int .i64 0, .int .i64 0] rfl).put 1 (zD rfl) (.int .i64 (b * 33554432)) [.int .i64 (a * 33554432), .int .i64 (b * 33554432), .int .i64 0] rfl).put 2 (zD rfl) (.int .i64 (c * 33554432)) [.int .i64 (a * 33554432), .int .i64 (b * 33554432), .int .i64 (c * 33554432)] rfl) 2 (zD rfl)
  simp only [List.getElem_cons_zero, List.getElem_cons_succ] at d0 d1 d2
  refine ⟨bodyPost_ret (v := .tuple #[.agg #[.int .i64 (a * 33554432), .int .i64 (b * 33554432), .int .i64 (c * 33554432)], .bool true]) (by simp [results_cell_tmp Tryz.results195, asAddr, go_sem, d0, d1, d2]) rfl ⟨rfl, (bel_new (bel_new (bel_new L7 _ _ (by omega) _) _ _ (by omega) _) _ _ (by omega) _)⟩⟩
theorem sstrength_any (s : ByteArray) (w : World) (h : 6 ≤ s.size) :
    Calls Tryz.prog 196 #[.string s] w fun e w' => e = .returned (.tuple #[vecV (magS (sg (cnt s 0)) (sg (cnt s 2)) (sg (cnt s 4))).1, .bool (magOk (sg (cnt s 0)) (sg (cnt s 2)) (sg (cnt s 4)))]) ∧ Below w.heap.size w w' := by
 have h0 := fun W => ssigned_any s 0 0 W rfl (by omega) (by omega)
 have h1 := fun W => ssigned_any s 1 1 W rfl (by omega) (by omega)
 have h2 := fun W => ssigned_any s 2 2 W rfl (by omega) (by omega)
 simp only [Nat.reduceMul] at h0 h1 h2
 generalize sg (cnt s 0) = a at h0 ⊢
 generalize sg (cnt s 2) = b at h1 ⊢
 generalize sg (cnt s 4) = c at h2 ⊢
 go_enter Tryz.func196, Tryz.ntmps196
 go_wp2_with fail
 refine wp_loop_rounds 4 ?_
 refine rounds_letter (S := fun W => Below w.heap.size w W ∧ Arr (w.heap.size) [.int .i64 0, .int .i64 0, .int .i64 0] W ∧ Arr (w.heap.size + 2) [.int .i64 0, .int .i64 0, .int .i64 0] W ∧ Fl (w.heap.size + 1) false W) ⟨bel_al (bel_al (bel_al (Below.refl _ _) _) _) _, ((Arr_at w w.heap.size [.int .i64 0, .int .i64 0, .int .i64 0] _ rfl).alloc _).alloc _, Arr_at _ (w.heap.size + 2) [.int .i64 0, .int .i64 0, .int .i64 0] _ (by simp), (Fl_at _ (w.heap.size + 1) false _ (by simp)).alloc _⟩ ?_
 rintro W1 ⟨L1, R1, V1, F1⟩
 have Rz1 := R1.lies
 have Vz1 := V1.lies
 have Fz1 := F1.lies
 rw [rounds_succ]
 go_wp2_with fail
 refine (h0 _).mono ?_
 rintro e W2 ⟨rfl, k⟩
 have L2 := bel_then L1 k
 have R2 := R1.below k
 have V2 := V1.below k
 have F2 := F1.below k
 have Rz2 := R2.lies
 have Vz2 := V2.lies
 have Fz2 := F2.lies
 clear k L1 R1 V1 F1 Rz1 Vz1 Fz1
 go_wp2_with fail
 refine (Part_any (w.heap.size + 1) false 1099511627776 a 100 _ F2).mono ?_
 rintro e W3 ⟨rfl, F3, k⟩
 have L3 := k.on L2 (by omega)
 have R3 := R2.kept k (by omega)
 have V3 := V2.kept k (by omega)
 have Rz3 := R3.lies
 have Vz3 := V3.lies
 have Fz3 := F3.lies
 clear k L2 R2 V2 F2 Rz2 Vz2 Fz2
 generalize e0 : partS false 1099511627776 a 100 = r0 at F3 ⊢
 have E0 : Hid _ := e0
 clear e0
 have cV_0 : W3.cell? ⟨w.heap.size + 2, 0, none⟩ = some (.int .i64 0) := V3.c 0 (zD rfl)
 have gV_0 := V3.f 0 (zD rfl)
 go_wp2_with fail
 clear cV_0 gV_0
 refine rounds_letter (S := fun W => Below w.heap.size w W ∧ Arr (w.heap.size) [.int .i64 0, .int .i64 0, .int .i64 0] W ∧ Arr (w.heap.size + 2) [.int .i64 r0.1, .int .i64 0, .int .i64 0] W ∧ Fl (w.heap.size + 1) r0.2 W) ⟨bel_new L3 _ _ (by omega) _, R3.new _ _ (by omega) _, V3.put 0 (zD rfl) (.int .i64 r0.1) [.int .i64 r0.1, .int .i64 0, .int .i64 0] rfl, F3.new _ _ (by omega) _⟩ ?_
 rintro W4 ⟨L4, R4, V4, F4⟩
 have Rz4 := R4.lies
 have Vz4 := V4.lies
 have Fz4 := F4.lies
 rw [rounds_succ]
 go_wp2_with fail
 refine (h1 _).mono ?_
 rintro e W5 ⟨rfl, k⟩
 have L5 := bel_then L4 k
 have R5 := R4.below k
 have V5 := V4.below k
 have F5 := F4.below k
 have Rz5 := R5.lies
 have Vz5 := V5.lies
 have Fz5 := F5.lies
 clear k L4 R4 V4 F4 Rz4 Vz4 Fz4
 go_wp2_with fail
 refine (Part_any (w.heap.size + 1) r0.2 1099511627776 b 100 _ F5).mono ?_
 rintro e W6 ⟨rfl, F6, k⟩
 have L6 := k.on L5 (by omega)
 have R6 := R5.kept k (by omega)
 have V6 := V5.kept k (by omega)
 have Rz6 := R6.lies
 have Vz6 := V6.lies
 have Fz6 := F6.lies
 clear k L5 R5 V5 F5 Rz5 Vz5 Fz5
 generalize e1 : partS r0.2 1099511627776 b 100 = r1 at F6 ⊢
 have E1 : Hid _ := e1
 clear e1
 have cV_1 : W6.cell? ⟨w.heap.size + 2, 1, none⟩ = some (.int .i64 0) := V6.c 1 (zD rfl)
 have gV_1 := V6.f 1 (zD rfl)
 go_wp2_with fail
 clear cV_1 gV_1
 refine rounds_letter (S := fun W => Below w.heap.size w W ∧ Arr (w.heap.size) [.int .i64 0, .int .i64 0, .int .i64 0] W ∧ Arr (w.heap.size + 2) [.int .i64 r0.1, .int .i64 r1.1, .int .i64 0] W ∧ Fl (w.heap.size + 1) r1.2 W) ⟨bel_new L6 _ _ (by omega) _, R6.new _ _ (by omega) _, V6.put 1 (zD rfl) (.int .i64 r1.1) [.int .i64 r0.1, .int .i64 r1.1, .int .i64 0] rfl, F6.new _ _ (by omega) _⟩ ?_
 rintro W7 ⟨L7, R7, V7, F7⟩
 have Rz7 := R7.lies
 have Vz7 := V7.lies
 have Fz7 := F7.lies
 rw [rounds_succ]
 go_wp2_with fail
 refine (h2 _).mono ?_
 rintro e W8 ⟨rfl, k⟩
 have L8 := bel_then L7 k
 have R8 := R7.below k
 have V8 := V7.below k
 have F8 := F7.below k
 have Rz8 := R8.lies
 have Vz8 := V8.lies
 have Fz8 := F8.lies
 clear k L7 R7 V7 F7 Rz7 Vz7 Fz7
 go_wp2_with fail
 refine (Part_any (w.heap.size + 1) r1.2 1099511627776 c 100 _ F8).mono ?_
 rintro e W9 ⟨rfl, F9, k⟩
 have L9 := k.on L8 (by omega)
 have R9 := R8.kept k (by omega)
 have V9 := V8.kept k (by omega)
 have Rz9 := R9.lies
 have Vz9 := V9.lies
 have Fz9 := F9.lies
 clear k L8 R8 V8 F8 Rz8 Vz8 Fz8
 generalize e2 : partS r1.2 1099511627776 c 100 = r2 at F9 ⊢
 have E2 : Hid _ := e2
 clear e2
 have cV_2 : W9.cell? ⟨w.heap.size + 2, 2, none⟩ = some (.int .i64 0) := V9.c 2 (zD rfl)
 have gV_2 := V9.f 2 (zD rfl)
 go_wp2_with fail
 clear cV_2 gV_2
 refine rounds_letter (S := fun W => Below w.heap.size w W ∧ Arr (w.heap.size) [.int .i64 0, .int .i64 0, .int .i64 0] W ∧ Arr (w.heap.size + 2) [.int .i64 r0.1, .int .i64 r1.1, .int .i64 r2.1] W ∧ Fl (w.heap.size + 1) r2.2 W) ⟨bel_new L9 _ _ (by omega) _, R9.new _ _ (by omega) _, V9.put 2 (zD rfl) (.int .i64 r2.1) [.int .i64 r0.1, .int .i64 r1.1, .int .i64 r2.1] rfl, F9.new _ _ (by omega) _⟩ ?_
 rintro W10 ⟨L10, R10, V10, F10⟩
 have Rz10 := R10.lies
 have Vz10 := V10.lies
 have Fz10 := F10.lies
 rw [rounds_succ]
 have cV_0 : W10.cell? ⟨w.heap.size + 2, 0, none⟩ = some (.int .i64 r0.1) := V10.c 0 (zD rfl)
 have cV_1 : W10.cell? ⟨w.heap.size + 2, 1, none⟩ = some (.int .i64 r1.1) := V10.c 1 (zD rfl)
 have cV_2 : W10.cell? ⟨w.heap.size + 2, 2, none⟩ = some (.int .i64 r2.1) := V10.c 2 (zD rfl)
 go_wp2_with fail
 refine (vNorm_any (w.heap.size + 1) r2.2 (r0.1, r1.1, r2.1) _ F10).mono ?_
 rintro e W11 ⟨rfl, F11, k⟩
 have L11 := k.on L10 (by omega)
 have R11 := R10.kept k (by omega)
 have V11 := V10.kept k (by omega)
 have Rz11 := R11.lies
 have Vz11 := V11.lies
 have Fz11 := F11.lies
 clear k L10 R10 V10 F10 Rz10 Vz10 Fz10
 generalize en : vNormS r2.2 (r0.1, r1.1, r2.1) = q at F11 ⊢
 clear cV_0 cV_1 cV_2
 have hs : (magS a b c).1 = (r0.1, r1.1, r2.1) := by unfold magS; simp only [E0.out, E1.out, E2.out]
 have hn : magN a b c = q.1 := by unfold magN magS; simp only [E0.out, E1.out, E2.out, en]
 have Hs : Hid _ := hs
 have Hn : Hid _ := hn
 clear hs hn en
 have hm : magOk a b c = (decide (1099511627776 ≤ q.1) && decide (q.1 ≤ 131941395333120)) := by unfold magOk; rw [Hn.out]
 have Hm : Hid _ := hm
 clear hm
 generalize q.1 = n at Hm ⊢
 by_cases c1 : 1099511627776 ≤ n
 ·by_cases c2 : n ≤ 131941395333120
  ·have Hok : Hid ((decide (1099511627776 ≤ n) && decide (n ≤ 131941395333120)) = true) := by show _ = _; simp; omega
   have cV_0 : W11.cell? ⟨w.heap.size + 2, 0, none⟩ = some (.int .i64 r0.1) := V11.c 0 (zD rfl)
   have cV_1 : W11.cell? ⟨w.heap.size + 2, 1, none⟩ = some (.int .i64 r1.1) := V11.c 1 (zD rfl)
   have cV_2 : W11.cell? ⟨w.heap.size + 2, 2, none⟩ = some (.int .i64 r2.1) := V11.c 2 (zD rfl)
   have cR_0 : W11.cell? ⟨w.heap.size, 0, none⟩ = some (.int .i64 0) := R11.c 0 (zD rfl)
   have gR_0 := R11.f 0 (zD rfl)
   have cR_1 : W11.cell? ⟨w.heap.size, 1, none⟩ = some (.int .i64 0) := R11.c 1 (zD rfl)
   have gR_1 := R11.f 1 (zD rfl)
   have cR_2 : W11.cell? ⟨w.heap.size, 2, none⟩ = some (.int .i64 0) := R11.c 2 (zD rfl)
   have gR_2 := R11.f 2 (zD rfl)
   go_wp2_with (with_reducible refine post_stop ?_)
   all_goals
    have d0 := Arr.c (((R11.put 0 (zD rfl) (.int .i64 r0.1) [.int .i64 r0.1, .int .i64 0, .int .i64 0] rfl).put 1 (zD rfl) (.int .i64 r1.1) [.int .i64 r0.1, .int .i64 r1.1, .int .i64 0] rfl).put 2 (zD rfl) (.int .i64 r2.1) [.int .i64 r0.1, .int .i64 r1.1, .int .i64 r2.1] rfl) 0 (zD rfl)
    have d1 := Arr.c (((R11.put 0 (zD rfl) (.int .i64 r0.1) [.int .i64 r0.1, .int .i64 0, .int .i64 0] rfl).put 1 (zD rfl) (.int .i64 r1.1) [.int .i64 r0.1, .int .i64 r1.1, .int .i64 0] rfl).put 2 (zD rfl) (.int .i64 r2.1) [.int .i64 r0.1, .int .i64 r1.1, .int .i64 r2.1] rfl) 1 (zD rfl)
    have d2 := Arr.c (((R11.put 0 (zD rfl) (.int .i64 r0.1) [.int .i64 r0.1, .int .i64 0, .int .i64 0] rfl).put 1 (zD rfl) (.int .i64 r1.1) [.int .i64 r0.1, .int .i64 r1.1, .int .i64 0] rfl).put 2 (zD rfl) (.int .i64 r2.1) [.int .i64 r0.1, .int .i64 r1.1, .int .i64 r2.1] rfl) 2 (zD rfl)
    simp only [List.getElem_cons_zero, List.getElem_cons_succ] at d0 d1 d2
    refine ⟨bodyPost_ret (v := .tuple #[.agg #[.int .i64 r0.1, .int .i64 r1.1, .int .i64 r2.1], .bool true]) (by simp [results_cell_tmp Tryz.results196, asAddr, go_sem, d0, d1, d2]) rfl ⟨by rw [Hs.out, Hm.out, Hok.out]; rfl, (bel_new (bel_new (bel_new L11 _ _ (by omega) _) _ _ (by omega) _) _ _ (by omega) _)⟩⟩
  ·have Hok : Hid ((decide (1099511627776 ≤ n) && decide (n ≤ 131941395333120)) = false) := by show _ = _; simp; omega
   have cV_0 : W11.cell? ⟨w.heap.size + 2, 0, none⟩ = some (.int .i64 r0.1) := V11.c 0 (zD rfl)
   have cV_1 : W11.cell? ⟨w.heap.size + 2, 1, none⟩ = some (.int .i64 r1.1) := V11.c 1 (zD rfl)
   have cV_2 : W11.cell? ⟨w.heap.size + 2, 2, none⟩ = some (.int .i64 r2.1) := V11.c 2 (zD rfl)
   have cR_0 : W11.cell? ⟨w.heap.size, 0, none⟩ = some (.int .i64 0) := R11.c 0 (zD rfl)
   have gR_0 := R11.f 0 (zD rfl)
   have cR_1 : W11.cell? ⟨w.heap.size, 1, none⟩ = some (.int .i64 0) := R11.c 1 (zD rfl)
   have gR_1 := R11.f 1 (zD rfl)
   have cR_2 : W11.cell? ⟨w.heap.size, 2, none⟩ = some (.int .i64 0) := R11.c 2 (zD rfl)
   have gR_2 := R11.f 2 (zD rfl)
   go_wp2_with (with_reducible refine post_stop ?_)
   all_goals
    have d0 := Arr.c (((R11.put 0 (zD rfl) (.int .i64 r0.1) [.int .i64 r0.1, .int .i64 0, .int .i64 0] rfl).put 1 (zD rfl) (.int .i64 r1.1) [.int .i64 r0.1, .int .i64 r1.1, .int .i64 0] rfl).put 2 (zD rfl) (.int .i64 r2.1) [.int .i64 r0.1, .int .i64 r1.1, .int .i64 r2.1] rfl) 0 (zD rfl)
    have d1 := Arr.c (((R11.put 0 (zD rfl) (.int .i64 r0.1) [.int .i64 r0.1, .int .i64 0, .int .i64 0] rfl).put 1 (zD rfl) (.int .i64 r1.1) [.int .i64 r0.1, .int .i64 r1.1, .int .i64 0] rfl).put 2 (zD rfl) (.int .i64 r2.1) [.int .i64 r0.1, .int .i64 r1.1, .int .i64 r2.1] rfl) 1 (zD rfl)
    have d2 := Arr.c (((R11.put 0 (zD rfl) (.int .i64 r0.1) [.int .i64 r0.1, .int .i64 0, .int .i64 0] rfl).put 1 (zD rfl) (.int .i64 r1.1) [.int .i64 r0.1, .int .i64 r1.1, .int .i64 0] rfl).put 2 (zD rfl) (.int .i64 r2.1) [.int .i64 r0.1, .int .i64 r1.1, .int .i64 r2.1] rfl) 2 (zD rfl)
    simp only [List.getElem_cons_zero, List.getElem_cons_succ] at d0 d1 d2
    refine ⟨bodyPost_ret (v := .tuple #[.agg #[.int .i64 r0.1, .int .i64 r1.1, .int .i64 r2.1], .bool false]) (by simp [results_cell_tmp Tryz.results196, asAddr, go_sem, d0, d1, d2]; omega) rfl ⟨by rw [Hs.out, Hm.out, Hok.out]; rfl, (bel_new (bel_new (bel_new L11 _ _ (by omega) _) _ _ (by omega) _) _ _ (by omega) _)⟩⟩
 ·have Hok : Hid ((decide (1099511627776 ≤ n) && decide (n ≤ 131941395333120)) = false) := by show _ = _; simp; omega
  have cV_0 : W11.cell? ⟨w.heap.size + 2, 0, none⟩ = some (.int .i64 r0.1) := V11.c 0 (zD rfl)
  have cV_1 : W11.cell? ⟨w.heap.size + 2, 1, none⟩ = some (.int .i64 r1.1) := V11.c 1 (zD rfl)
  have cV_2 : W11.cell? ⟨w.heap.size + 2, 2, none⟩ = some (.int .i64 r2.1) := V11.c 2 (zD rfl)
  have cR_0 : W11.cell? ⟨w.heap.size, 0, none⟩ = some (.int .i64 0) := R11.c 0 (zD rfl)
  have gR_0 := R11.f 0 (zD rfl)
  have cR_1 : W11.cell? ⟨w.heap.size, 1, none⟩ = some (.int .i64 0) := R11.c 1 (zD rfl)
  have gR_1 := R11.f 1 (zD rfl)
  have cR_2 : W11.cell? ⟨w.heap.size, 2, none⟩ = some (.int .i64 0) := R11.c 2 (zD rfl)
  have gR_2 := R11.f 2 (zD rfl)
  go_wp2_with (with_reducible refine post_stop ?_)
  all_goals
   have d0 := Arr.c (((R11.put 0 (zD rfl) (.int .i64 r0.1) [.int .i64 r0.1, .int .i64 0, .int .i64 0] rfl).put 1 (zD rfl) (.int .i64 r1.1) [.int .i64 r0.1, .int .i64 r1.1, .int .i64 0] rfl).put 2 (zD rfl) (.int .i64 r2.1) [.int .i64 r0.1, .int .i64 r1.1, .int .i64 r2.1] rfl) 0 (zD rfl)
   have d1 := Arr.c (((R11.put 0 (zD rfl) (.int .i64 r0.1) [.int .i64 r0.1, .int .i64 0, .int .i64 0] rfl).put 1 (zD rfl) (.int .i64 r1.1) [.int .i64 r0.1, .int .i64 r1.1, .int .i64 0] rfl).put 2 (zD rfl) (.int .i64 r2.1) [.int .i64 r0.1, .int .i64 r1.1, .int .i64 r2.1] rfl) 1 (zD rfl)
   have d2 := Arr.c (((R11.put 0 (zD rfl) (.int .i64 r0.1) [.int .i64 r0.1, .int .i64 0, .int .i64 0] rfl).put 1 (zD rfl) (.int .i64 r1.1) [.int .i64 r0.1, .int .i64 r1.1, .int .i64 0] rfl).put 2 (zD rfl) (.int .i64 r2.1) [.int .i64 r0.1, .int .i64 r1.1, .int .i64 r2.1] rfl) 2 (zD rfl)
   simp only [List.getElem_cons_zero, List.getElem_cons_succ] at d0 d1 d2
   refine ⟨bodyPost_ret (v := .tuple #[.agg #[.int .i64 r0.1, .int .i64 r1.1, .int .i64 r2.1], .bool false]) (by simp [results_cell_tmp Tryz.results196, asAddr, go_sem, d0, d1, d2]) rfl ⟨by rw [Hs.out, Hm.out, Hok.out]; rfl, (bel_new (bel_new (bel_new L11 _ _ (by omega) _) _ _ (by omega) _) _ _ (by omega) _)⟩⟩
end Go.Proofs.YtlpkfmfblglceaaGreatDoor
