/-
  Walks of the reference of stage 5, for the seat Ytkeijfbpkdelpaa. (Made by mkref05.py.)
-/
import Derived.Test.YtkeijfbpkdelpaaXFSpec
import Derived.Test.YtkeijfbpkdelpaaXUnit
import Derived.Test.YtkeijfbpkdelpaaVFold
import Derived.Test.YtkeijfbpkdelpaaStop
import Derived.Handy
import Derived.Deep.RegionHeld3
namespace Go.Proofs.Ytkeijfbpkdelpaa
open Go.RowKit

set_option maxRecDepth 100000 in
set_option maxHeartbeats 2000000 in
theorem xFromMatrix_any (b : Nat) (bad : Bool) (m : V9) (w : World) (hw : Fl b bad w) :
    Calls Try.prog 29 #[.pointer (some ⟨b, 0, none⟩), .agg #[.int .i64 m.1, .int .i64 m.2.1, .int .i64 m.2.2.1, .int .i64 m.2.2.2.1, .int .i64 m.2.2.2.2.1, .int .i64 m.2.2.2.2.2.1, .int .i64 m.2.2.2.2.2.2.1, .int .i64 m.2.2.2.2.2.2.2.1, .int .i64 m.2.2.2.2.2.2.2.2]] w fun e w' => e = .returned (.agg #[.int .i64 ((xFromMatrixS bad m).1.1), .int .i64 ((xFromMatrixS bad m).1.2.1), .int .i64 ((xFromMatrixS bad m).1.2.2.1), .int .i64 ((xFromMatrixS bad m).1.2.2.2)]) ∧ Fl b (xFromMatrixS bad m).2 w' ∧ Kept b w w' := by
  have hl := hw.lies
  go_enter Try.func29, Try.ntmps29
  go_wp2_with fail
  refine wp_region_held_drew (S := fun w' => Arr w.heap.size [.int .i64 m.1, .int .i64 m.2.1, .int .i64 m.2.2.1, .int .i64 m.2.2.2.1, .int .i64 m.2.2.2.2.1, .int .i64 m.2.2.2.2.2.1, .int .i64 m.2.2.2.2.2.2.1, .int .i64 m.2.2.2.2.2.2.2.1, .int .i64 m.2.2.2.2.2.2.2.2] w') (by kernel_rfl) ((Arr_at _ _ [.int .i64 m.1, .int .i64 m.2.1, .int .i64 m.2.2.1, .int .i64 m.2.2.2.1, .int .i64 m.2.2.2.2.1, .int .i64 m.2.2.2.2.2.1, .int .i64 m.2.2.2.2.2.2.1, .int .i64 m.2.2.2.2.2.2.2.1, .int .i64 m.2.2.2.2.2.2.2.2] _ (by simp)).alloc _).drew (fun hHeld => ?_)
  refine take_at (i := 0) (v := ?v1) rfl (by kernel_rfl) (by kernel_rfl) (by kernel_rfl) (fun _ _ _ h => h) (Or.inl ⟨by rfl, ?y1⟩) hHeld ?t1
  case y1 => (intro wx hSw; go_simp <;> with_reducible rfl)
  simp only [Act.put, List.setIfInBounds_toArray, List.set_cons_zero, List.set_cons_succ]
  refine take_at (i := 1) (v := ?v2) rfl (by kernel_rfl) (by kernel_rfl) (by kernel_rfl) (fun _ _ _ h => h) (Or.inl ⟨by rfl, ?y2⟩) hHeld ?t2
  case y2 => (intro wx hSw; go_simp <;> with_reducible rfl)
  simp only [Act.put, List.setIfInBounds_toArray, List.set_cons_zero, List.set_cons_succ]
  refine take_at (i := 2) (v := ?v3) rfl (by kernel_rfl) (by kernel_rfl) (by kernel_rfl) (fun _ _ _ h => h) (Or.inl ⟨by rfl, ?y3⟩) hHeld ?t3
  case y3 => (intro wx hSw; go_simp <;> with_reducible rfl)
  simp only [Act.put, List.setIfInBounds_toArray, List.set_cons_zero, List.set_cons_succ]
  refine take_at (i := 3) (v := ?v4) rfl (by kernel_rfl) (by kernel_rfl) (by kernel_rfl) (fun _ _ _ h => h) (Or.inl ⟨by rfl, ?y4⟩) hHeld ?t4
  case y4 => (intro wx hSw; go_simp <;> with_reducible rfl)
  simp only [Act.put, List.setIfInBounds_toArray, List.set_cons_zero, List.set_cons_succ]
  refine take_at (i := 4) (v := ?v5) rfl (by kernel_rfl) (by kernel_rfl) (by kernel_rfl) (fun _ _ _ h => h) (Or.inl ⟨by rfl, ?y5⟩) hHeld ?t5
  case y5 => (intro wx hSw; have hc0 : wx.cell? ⟨w.heap.size, 0, none⟩ = some (.int .i64 m.1) := hSw.c 0 (of_decide_eq_true rfl); go_simp <;> with_reducible rfl)
  simp only [Act.put, List.setIfInBounds_toArray, List.set_cons_zero, List.set_cons_succ]
  refine take_at (i := 5) (v := ?v6) rfl (by kernel_rfl) (by kernel_rfl) (by kernel_rfl) (fun _ _ _ h => h) (Or.inl ⟨by rfl, ?y6⟩) hHeld ?t6
  case y6 => (intro wx hSw; go_simp <;> with_reducible rfl)
  simp only [Act.put, List.setIfInBounds_toArray, List.set_cons_zero, List.set_cons_succ]
  refine take_at (i := 6) (v := ?v7) rfl (by kernel_rfl) (by kernel_rfl) (by kernel_rfl) (fun _ _ _ h => h) (Or.inl ⟨by rfl, ?y7⟩) hHeld ?t7
  case y7 => (intro wx hSw; go_simp <;> with_reducible rfl)
  simp only [Act.put, List.setIfInBounds_toArray, List.set_cons_zero, List.set_cons_succ]
  refine take_at (i := 7) (v := ?v8) rfl (by kernel_rfl) (by kernel_rfl) (by kernel_rfl) (fun _ _ _ h => h) (Or.inl ⟨by rfl, ?y8⟩) hHeld ?t8
  case y8 => (intro wx hSw; have hc4 : wx.cell? ⟨w.heap.size, 4, none⟩ = some (.int .i64 m.2.2.2.2.1) := hSw.c 4 (of_decide_eq_true rfl); go_simp <;> with_reducible rfl)
  simp only [Act.put, List.setIfInBounds_toArray, List.set_cons_zero, List.set_cons_succ]
  refine take_at (i := 9) (v := ?v9) rfl (by kernel_rfl) (by kernel_rfl) (by kernel_rfl) (fun _ _ _ h => h) (Or.inl ⟨by rfl, ?y9⟩) hHeld ?t9
  case y9 => (intro wx hSw; go_simp <;> with_reducible rfl)
  simp only [Act.put, List.setIfInBounds_toArray, List.set_cons_zero, List.set_cons_succ]
  refine take_at (i := 10) (v := ?v10) rfl (by kernel_rfl) (by kernel_rfl) (by kernel_rfl) (fun _ _ _ h => h) (Or.inl ⟨by rfl, ?y10⟩) hHeld ?t10
  case y10 => (intro wx hSw; go_simp <;> with_reducible rfl)
  simp only [Act.put, List.setIfInBounds_toArray, List.set_cons_zero, List.set_cons_succ]
  refine take_at (i := 11) (v := ?v11) rfl (by kernel_rfl) (by kernel_rfl) (by kernel_rfl) (fun _ _ _ h => h) (Or.inl ⟨by rfl, ?y11⟩) hHeld ?t11
  case y11 => (intro wx hSw; have hc8 : wx.cell? ⟨w.heap.size, 8, none⟩ = some (.int .i64 m.2.2.2.2.2.2.2.2) := hSw.c 8 (of_decide_eq_true rfl); go_simp <;> with_reducible rfl)
  simp only [Act.put, List.setIfInBounds_toArray, List.set_cons_zero, List.set_cons_succ]
  refine call_at (i := 8) (by kernel_rfl) rfl (fun K hK => ?_)
  go_simp
  refine (rAdd_any b bad m.1 m.2.2.2.2.1 _ ((hw.alloc _).alloc _).drew).mono ?_
  rintro e w1 ⟨rfl, f1, k1⟩
  generalize e1 : addS bad m.1 m.2.2.2.2.1 = r1 at f1 ⊢
  have E1 : Hid _ := e1
  clear e1
  have K1 : Kept b w w1 := Kept.trans (((Kept.refl b w).al _).al _).drew k1
  have B0_1 : Arr w.heap.size [.int .i64 m.1, .int .i64 m.2.1, .int .i64 m.2.2.1, .int .i64 m.2.2.2.1, .int .i64 m.2.2.2.2.1, .int .i64 m.2.2.2.2.2.1, .int .i64 m.2.2.2.2.2.2.1, .int .i64 m.2.2.2.2.2.2.2.1, .int .i64 m.2.2.2.2.2.2.2.2] w1 := ((Arr_at _ _ [.int .i64 m.1, .int .i64 m.2.1, .int .i64 m.2.2.1, .int .i64 m.2.2.2.1, .int .i64 m.2.2.2.2.1, .int .i64 m.2.2.2.2.2.1, .int .i64 m.2.2.2.2.2.2.1, .int .i64 m.2.2.2.2.2.2.2.1, .int .i64 m.2.2.2.2.2.2.2.2] _ (by simp)).alloc _).drew.kept k1 (by omega)
  have B1_1 : Arr (w.heap.size + 1) [.int .i64 0, .int .i64 0, .int .i64 0, .int .i64 0] w1 := (Arr_at _ _ [.int .i64 0, .int .i64 0, .int .i64 0, .int .i64 0] _ (by simp)).drew.kept k1 (by omega)
  have z1 := B1_1.lies
  clear hHeld
  refine hK.out _ _ B0_1 (fun hHeld => ?_)
  clear hK K k1
  refine call_at (i := 12) (by kernel_rfl) rfl (fun K hK => ?_)
  go_simp
  refine (rAdd_any b r1.2 r1.1 m.2.2.2.2.2.2.2.2 _ f1).mono ?_
  rintro e w2 ⟨rfl, f2, k2⟩
  generalize e2 : addS r1.2 r1.1 m.2.2.2.2.2.2.2.2 = r2 at f2 ⊢
  have E2 : Hid _ := e2
  clear e2
  have K2 : Kept b w w2 := Kept.trans K1 k2
  have B0_2 : Arr w.heap.size [.int .i64 m.1, .int .i64 m.2.1, .int .i64 m.2.2.1, .int .i64 m.2.2.2.1, .int .i64 m.2.2.2.2.1, .int .i64 m.2.2.2.2.2.1, .int .i64 m.2.2.2.2.2.2.1, .int .i64 m.2.2.2.2.2.2.2.1, .int .i64 m.2.2.2.2.2.2.2.2] w2 := B0_1.kept k2 (by omega)
  have B1_2 : Arr (w.heap.size + 1) [.int .i64 0, .int .i64 0, .int .i64 0, .int .i64 0] w2 := B1_1.kept k2 (by omega)
  have z2 := B1_2.lies
  clear hHeld
  refine hK.out _ _ B0_2 (fun hHeld => ?_)
  clear hK K K1 f1 B0_1 B1_1 k2
  refine take_at (i := 13) (v := ?v12) rfl (by kernel_rfl) (by kernel_rfl) (by kernel_rfl) (fun _ _ _ h => h) (Or.inl ⟨by rfl, ?y12⟩) hHeld ?t12
  case y12 => (intro wx hSw; go_simp <;> with_reducible rfl)
  simp only [Act.put, List.setIfInBounds_toArray, List.set_cons_zero, List.set_cons_succ]
  refine wpAnyH_done (by kernel_rfl) ?_ _
  clear hHeld
  go_wp2_with fail
  refine wp_loop_rounds 10 ?_
  rw [rounds_succ]
  have c3_B0_0 : w2.cell? ⟨w.heap.size, 0, none⟩ = some (.int .i64 m.1) := B0_2.c 0 (of_decide_eq_true rfl)
  go_wp2_with fail
  refine (rAdd_any b r2.2 m.1 0 _ f2).mono ?_
  rintro e w3 ⟨rfl, f3, k3⟩
  generalize e3 : addS r2.2 m.1 0 = r3 at f3 ⊢
  have E3 : Hid _ := e3
  clear e3
  have K3 : Kept b w w3 := Kept.trans K2 k3
  have B0_3 : Arr w.heap.size [.int .i64 m.1, .int .i64 m.2.1, .int .i64 m.2.2.1, .int .i64 m.2.2.2.1, .int .i64 m.2.2.2.2.1, .int .i64 m.2.2.2.2.2.1, .int .i64 m.2.2.2.2.2.2.1, .int .i64 m.2.2.2.2.2.2.2.1, .int .i64 m.2.2.2.2.2.2.2.2] w3 := B0_2.kept k3 (by omega)
  have B1_3 : Arr (w.heap.size + 1) [.int .i64 0, .int .i64 0, .int .i64 0, .int .i64 0] w3 := B1_2.kept k3 (by omega)
  have z3 := B1_3.lies
  clear c3_B0_0 K2 f2 B0_2 B1_2 k3
  go_wp2_with fail
  rw [rounds_succ]
  have c5_B0_1 : w3.cell? ⟨w.heap.size, 1, none⟩ = some (.int .i64 m.2.1) := B0_3.c 1 (of_decide_eq_true rfl)
  go_wp2_with fail
  refine (rAdd_any b r3.2 m.2.1 0 _ f3).mono ?_
  rintro e w4 ⟨rfl, f4, k4⟩
  generalize e4 : addS r3.2 m.2.1 0 = r4 at f4 ⊢
  have E4 : Hid _ := e4
  clear e4
  have K4 : Kept b w w4 := Kept.trans K3 k4
  have B0_4 : Arr w.heap.size [.int .i64 m.1, .int .i64 m.2.1, .int .i64 m.2.2.1, .int .i64 m.2.2.2.1, .int .i64 m.2.2.2.2.1, .int .i64 m.2.2.2.2.2.1, .int .i64 m.2.2.2.2.2.2.1, .int .i64 m.2.2.2.2.2.2.2.1, .int .i64 m.2.2.2.2.2.2.2.2] w4 := B0_3.kept k4 (by omega)
  have B1_4 : Arr (w.heap.size + 1) [.int .i64 0, .int .i64 0, .int .i64 0, .int .i64 0] w4 := B1_3.kept k4 (by omega)
  have z4 := B1_4.lies
  clear c5_B0_1 K3 f3 B0_3 B1_3 k4
  go_wp2_with fail
  rw [rounds_succ]
  have c7_B0_2 : w4.cell? ⟨w.heap.size, 2, none⟩ = some (.int .i64 m.2.2.1) := B0_4.c 2 (of_decide_eq_true rfl)
  go_wp2_with fail
  refine (rAdd_any b r4.2 m.2.2.1 0 _ f4).mono ?_
  rintro e w5 ⟨rfl, f5, k5⟩
  generalize e5 : addS r4.2 m.2.2.1 0 = r5 at f5 ⊢
  have E5 : Hid _ := e5
  clear e5
  have K5 : Kept b w w5 := Kept.trans K4 k5
  have B0_5 : Arr w.heap.size [.int .i64 m.1, .int .i64 m.2.1, .int .i64 m.2.2.1, .int .i64 m.2.2.2.1, .int .i64 m.2.2.2.2.1, .int .i64 m.2.2.2.2.2.1, .int .i64 m.2.2.2.2.2.2.1, .int .i64 m.2.2.2.2.2.2.2.1, .int .i64 m.2.2.2.2.2.2.2.2] w5 := B0_4.kept k5 (by omega)
  have B1_5 : Arr (w.heap.size + 1) [.int .i64 0, .int .i64 0, .int .i64 0, .int .i64 0] w5 := B1_4.kept k5 (by omega)
  have z5 := B1_5.lies
  clear c7_B0_2 K4 f4 B0_4 B1_4 k5
  go_wp2_with fail
  rw [rounds_succ]
  have c9_B0_3 : w5.cell? ⟨w.heap.size, 3, none⟩ = some (.int .i64 m.2.2.2.1) := B0_5.c 3 (of_decide_eq_true rfl)
  go_wp2_with fail
  refine (rAdd_any b r5.2 m.2.2.2.1 0 _ f5).mono ?_
  rintro e w6 ⟨rfl, f6, k6⟩
  generalize e6 : addS r5.2 m.2.2.2.1 0 = r6 at f6 ⊢
  have E6 : Hid _ := e6
  clear e6
  have K6 : Kept b w w6 := Kept.trans K5 k6
  have B0_6 : Arr w.heap.size [.int .i64 m.1, .int .i64 m.2.1, .int .i64 m.2.2.1, .int .i64 m.2.2.2.1, .int .i64 m.2.2.2.2.1, .int .i64 m.2.2.2.2.2.1, .int .i64 m.2.2.2.2.2.2.1, .int .i64 m.2.2.2.2.2.2.2.1, .int .i64 m.2.2.2.2.2.2.2.2] w6 := B0_5.kept k6 (by omega)
  have B1_6 : Arr (w.heap.size + 1) [.int .i64 0, .int .i64 0, .int .i64 0, .int .i64 0] w6 := B1_5.kept k6 (by omega)
  have z6 := B1_6.lies
  clear c9_B0_3 K5 f5 B0_5 B1_5 k6
  go_wp2_with fail
  rw [rounds_succ]
  have c11_B0_4 : w6.cell? ⟨w.heap.size, 4, none⟩ = some (.int .i64 m.2.2.2.2.1) := B0_6.c 4 (of_decide_eq_true rfl)
  go_wp2_with fail
  refine (rAdd_any b r6.2 m.2.2.2.2.1 0 _ f6).mono ?_
  rintro e w7 ⟨rfl, f7, k7⟩
  generalize e7 : addS r6.2 m.2.2.2.2.1 0 = r7 at f7 ⊢
  have E7 : Hid _ := e7
  clear e7
  have K7 : Kept b w w7 := Kept.trans K6 k7
  have B0_7 : Arr w.heap.size [.int .i64 m.1, .int .i64 m.2.1, .int .i64 m.2.2.1, .int .i64 m.2.2.2.1, .int .i64 m.2.2.2.2.1, .int .i64 m.2.2.2.2.2.1, .int .i64 m.2.2.2.2.2.2.1, .int .i64 m.2.2.2.2.2.2.2.1, .int .i64 m.2.2.2.2.2.2.2.2] w7 := B0_6.kept k7 (by omega)
  have B1_7 : Arr (w.heap.size + 1) [.int .i64 0, .int .i64 0, .int .i64 0, .int .i64 0] w7 := B1_6.kept k7 (by omega)
  have z7 := B1_7.lies
  clear c11_B0_4 K6 f6 B0_6 B1_6 k7
  go_wp2_with fail
  rw [rounds_succ]
  have c13_B0_5 : w7.cell? ⟨w.heap.size, 5, none⟩ = some (.int .i64 m.2.2.2.2.2.1) := B0_7.c 5 (of_decide_eq_true rfl)
  go_wp2_with fail
  refine (rAdd_any b r7.2 m.2.2.2.2.2.1 0 _ f7).mono ?_
  rintro e w8 ⟨rfl, f8, k8⟩
  generalize e8 : addS r7.2 m.2.2.2.2.2.1 0 = r8 at f8 ⊢
  have E8 : Hid _ := e8
  clear e8
  have K8 : Kept b w w8 := Kept.trans K7 k8
  have B0_8 : Arr w.heap.size [.int .i64 m.1, .int .i64 m.2.1, .int .i64 m.2.2.1, .int .i64 m.2.2.2.1, .int .i64 m.2.2.2.2.1, .int .i64 m.2.2.2.2.2.1, .int .i64 m.2.2.2.2.2.2.1, .int .i64 m.2.2.2.2.2.2.2.1, .int .i64 m.2.2.2.2.2.2.2.2] w8 := B0_7.kept k8 (by omega)
  have B1_8 : Arr (w.heap.size + 1) [.int .i64 0, .int .i64 0, .int .i64 0, .int .i64 0] w8 := B1_7.kept k8 (by omega)
  have z8 := B1_8.lies
  clear c13_B0_5 K7 f7 B0_7 B1_7 k8
  go_wp2_with fail
  rw [rounds_succ]
  have c15_B0_6 : w8.cell? ⟨w.heap.size, 6, none⟩ = some (.int .i64 m.2.2.2.2.2.2.1) := B0_8.c 6 (of_decide_eq_true rfl)
  go_wp2_with fail
  refine (rAdd_any b r8.2 m.2.2.2.2.2.2.1 0 _ f8).mono ?_
  rintro e w9 ⟨rfl, f9, k9⟩
  generalize e9 : addS r8.2 m.2.2.2.2.2.2.1 0 = r9 at f9 ⊢
  have E9 : Hid _ := e9
  clear e9
  have K9 : Kept b w w9 := Kept.trans K8 k9
  have B0_9 : Arr w.heap.size [.int .i64 m.1, .int .i64 m.2.1, .int .i64 m.2.2.1, .int .i64 m.2.2.2.1, .int .i64 m.2.2.2.2.1, .int .i64 m.2.2.2.2.2.1, .int .i64 m.2.2.2.2.2.2.1, .int .i64 m.2.2.2.2.2.2.2.1, .int .i64 m.2.2.2.2.2.2.2.2] w9 := B0_8.kept k9 (by omega)
  have B1_9 : Arr (w.heap.size + 1) [.int .i64 0, .int .i64 0, .int .i64 0, .int .i64 0] w9 := B1_8.kept k9 (by omega)
  have z9 := B1_9.lies
  clear c15_B0_6 K8 f8 B0_8 B1_8 k9
  go_wp2_with fail
  rw [rounds_succ]
  have c17_B0_7 : w9.cell? ⟨w.heap.size, 7, none⟩ = some (.int .i64 m.2.2.2.2.2.2.2.1) := B0_9.c 7 (of_decide_eq_true rfl)
  go_wp2_with fail
  refine (rAdd_any b r9.2 m.2.2.2.2.2.2.2.1 0 _ f9).mono ?_
  rintro e w10 ⟨rfl, f10, k10⟩
  generalize e10 : addS r9.2 m.2.2.2.2.2.2.2.1 0 = r10 at f10 ⊢
  have E10 : Hid _ := e10
  clear e10
  have K10 : Kept b w w10 := Kept.trans K9 k10
  have B0_10 : Arr w.heap.size [.int .i64 m.1, .int .i64 m.2.1, .int .i64 m.2.2.1, .int .i64 m.2.2.2.1, .int .i64 m.2.2.2.2.1, .int .i64 m.2.2.2.2.2.1, .int .i64 m.2.2.2.2.2.2.1, .int .i64 m.2.2.2.2.2.2.2.1, .int .i64 m.2.2.2.2.2.2.2.2] w10 := B0_9.kept k10 (by omega)
  have B1_10 : Arr (w.heap.size + 1) [.int .i64 0, .int .i64 0, .int .i64 0, .int .i64 0] w10 := B1_9.kept k10 (by omega)
  have z10 := B1_10.lies
  clear c17_B0_7 K9 f9 B0_9 B1_9 k10
  go_wp2_with fail
  rw [rounds_succ]
  have c19_B0_8 : w10.cell? ⟨w.heap.size, 8, none⟩ = some (.int .i64 m.2.2.2.2.2.2.2.2) := B0_10.c 8 (of_decide_eq_true rfl)
  go_wp2_with fail
  refine (rAdd_any b r10.2 m.2.2.2.2.2.2.2.2 0 _ f10).mono ?_
  rintro e w11 ⟨rfl, f11, k11⟩
  generalize e11 : addS r10.2 m.2.2.2.2.2.2.2.2 0 = r11 at f11 ⊢
  have E11 : Hid _ := e11
  clear e11
  have K11 : Kept b w w11 := Kept.trans K10 k11
  have B0_11 : Arr w.heap.size [.int .i64 m.1, .int .i64 m.2.1, .int .i64 m.2.2.1, .int .i64 m.2.2.2.1, .int .i64 m.2.2.2.2.1, .int .i64 m.2.2.2.2.2.1, .int .i64 m.2.2.2.2.2.2.1, .int .i64 m.2.2.2.2.2.2.2.1, .int .i64 m.2.2.2.2.2.2.2.2] w11 := B0_10.kept k11 (by omega)
  have B1_11 : Arr (w.heap.size + 1) [.int .i64 0, .int .i64 0, .int .i64 0, .int .i64 0] w11 := B1_10.kept k11 (by omega)
  have z11 := B1_11.lies
  clear c19_B0_8 K10 f10 B0_10 B1_10 k11
  go_wp2_with fail
  rw [rounds_succ]
  rcases Bool.eq_false_or_eq_true r11.2 with hc1 | hc1
  · have Hhc1 : Hid (r11.2 = true) := hc1
    have c21_B1_0 : w11.cell? ⟨w.heap.size + 1, 0, none⟩ = some (.int .i64 0) := B1_11.c 0 (of_decide_eq_true rfl)
    have c21_B1_1 : w11.cell? ⟨w.heap.size + 1, 1, none⟩ = some (.int .i64 0) := B1_11.c 1 (of_decide_eq_true rfl)
    have c21_B1_2 : w11.cell? ⟨w.heap.size + 1, 2, none⟩ = some (.int .i64 0) := B1_11.c 2 (of_decide_eq_true rfl)
    have c21_B1_3 : w11.cell? ⟨w.heap.size + 1, 3, none⟩ = some (.int .i64 0) := B1_11.c 3 (of_decide_eq_true rfl)
    have c21_BF := f11.cell
    have g21_B1_0 := B1_11.f 0 (of_decide_eq_true rfl)
    have g21_B1_1 := B1_11.f 1 (of_decide_eq_true rfl)
    have g21_B1_2 := B1_11.f 2 (of_decide_eq_true rfl)
    have g21_B1_3 := B1_11.f 3 (of_decide_eq_true rfl)
    go_wp2_with (with_reducible refine post_stop ?_)
    refine Stop.mk ?_
    clear c21_B1_0 c21_B1_1 c21_B1_2 c21_B1_3 c21_BF g21_B1_0 g21_B1_1 g21_B1_2 g21_B1_3
    refine bodyPost_ret (v := .agg #[.int .i64 0, .int .i64 0, .int .i64 0, .int .i64 0]) (results_arr Try.results29 ((((B1_11.put 0 (of_decide_eq_true rfl) (.int .i64 0) [.int .i64 0, .int .i64 0, .int .i64 0, .int .i64 0] rfl).put 1 (of_decide_eq_true rfl) (.int .i64 0) [.int .i64 0, .int .i64 0, .int .i64 0, .int .i64 0] rfl).put 2 (of_decide_eq_true rfl) (.int .i64 0) [.int .i64 0, .int .i64 0, .int .i64 0, .int .i64 0] rfl).put 3 (of_decide_eq_true rfl) (.int .i64 0) [.int .i64 0, .int .i64 0, .int .i64 0, .int .i64 0] rfl) rfl (by kernel_rfl) (by kernel_rfl)) rfl ?_
    have hs : xFromMatrixS bad m = ((0, 0, 0, 0), r11.2) := by unfold xFromMatrixS; simp only [E1.out, E2.out, E3.out, E4.out, E5.out, E6.out, E7.out, E8.out, E9.out, E10.out, E11.out]; rw [if_pos Hhc1.out]
    rw [hs]
    exact ⟨rfl, ((((f11.new (w.heap.size + 1) 0 (by omega) (.int .i64 0)).new (w.heap.size + 1) 1 (by omega) (.int .i64 0)).new (w.heap.size + 1) 2 (by omega) (.int .i64 0)).new (w.heap.size + 1) 3 (by omega) (.int .i64 0)), ((((K11.new _ _ (by omega) _).new _ _ (by omega) _).new _ _ (by omega) _).new _ _ (by omega) _)⟩
  · have Hhc1 : Hid (r11.2 = false) := hc1
    have c21_BF := f11.cell
    go_wp2_with fail
    clear c21_BF
    refine wp_loop_rounds 15 ?_
    rw [rounds_succ]
    by_cases hc2 : m.1 > r2.1
    · have Hhc2 : Hid (m.1 > r2.1) := hc2
      have c22_B0_0 : w11.cell? ⟨w.heap.size, 0, none⟩ = some (.int .i64 m.1) := B0_11.c 0 (of_decide_eq_true rfl)
      go_wp2_with fail
      clear c22_B0_0
      rw [rounds_succ]
      by_cases hc3 : m.2.2.2.2.1 > m.1
      · have Hhc3 : Hid (m.2.2.2.2.1 > m.1) := hc3
        have c23_B0_4 : w11.cell? ⟨w.heap.size, 4, none⟩ = some (.int .i64 m.2.2.2.2.1) := B0_11.c 4 (of_decide_eq_true rfl)
        go_wp2_with fail
        clear c23_B0_4
        rw [rounds_succ]
        by_cases hc4 : m.2.2.2.2.2.2.2.2 > m.2.2.2.2.1
        · have Hhc4 : Hid (m.2.2.2.2.2.2.2.2 > m.2.2.2.2.1) := hc4
          have c24_B0_8 : w11.cell? ⟨w.heap.size, 8, none⟩ = some (.int .i64 m.2.2.2.2.2.2.2.2) := B0_11.c 8 (of_decide_eq_true rfl)
          go_wp2_with fail
          clear c24_B0_8
          rw [rounds_succ]
          have c25_B0_5 : w11.cell? ⟨w.heap.size, 5, none⟩ = some (.int .i64 m.2.2.2.2.2.1) := B0_11.c 5 (of_decide_eq_true rfl)
          have c25_B0_7 : w11.cell? ⟨w.heap.size, 7, none⟩ = some (.int .i64 m.2.2.2.2.2.2.2.1) := B0_11.c 7 (of_decide_eq_true rfl)
          go_wp2_with fail
          refine (rSub_any b r11.2 m.2.2.2.2.2.1 m.2.2.2.2.2.2.2.1 _ f11).mono ?_
          rintro e w12 ⟨rfl, f12, k12⟩
          generalize e12 : subS r11.2 m.2.2.2.2.2.1 m.2.2.2.2.2.2.2.1 = r12 at f12 ⊢
          have E12 : Hid _ := e12
          clear e12
          have K12 : Kept b w w12 := Kept.trans K11 k12
          have B0_12 : Arr w.heap.size [.int .i64 m.1, .int .i64 m.2.1, .int .i64 m.2.2.1, .int .i64 m.2.2.2.1, .int .i64 m.2.2.2.2.1, .int .i64 m.2.2.2.2.2.1, .int .i64 m.2.2.2.2.2.2.1, .int .i64 m.2.2.2.2.2.2.2.1, .int .i64 m.2.2.2.2.2.2.2.2] w12 := B0_11.kept k12 (by omega)
          have B1_12 : Arr (w.heap.size + 1) [.int .i64 0, .int .i64 0, .int .i64 0, .int .i64 0] w12 := B1_11.kept k12 (by omega)
          have z12 := B1_12.lies
          clear c25_B0_5 c25_B0_7 K11 f11 B0_11 B1_11 k12
          have c26_B0_2 : w12.cell? ⟨w.heap.size, 2, none⟩ = some (.int .i64 m.2.2.1) := B0_12.c 2 (of_decide_eq_true rfl)
          have c26_B0_6 : w12.cell? ⟨w.heap.size, 6, none⟩ = some (.int .i64 m.2.2.2.2.2.2.1) := B0_12.c 6 (of_decide_eq_true rfl)
          go_wp2_with fail
          refine (rSub_any b r12.2 m.2.2.2.2.2.2.1 m.2.2.1 _ f12).mono ?_
          rintro e w13 ⟨rfl, f13, k13⟩
          generalize e13 : subS r12.2 m.2.2.2.2.2.2.1 m.2.2.1 = r13 at f13 ⊢
          have E13 : Hid _ := e13
          clear e13
          have K13 : Kept b w w13 := Kept.trans K12 k13
          have B0_13 : Arr w.heap.size [.int .i64 m.1, .int .i64 m.2.1, .int .i64 m.2.2.1, .int .i64 m.2.2.2.1, .int .i64 m.2.2.2.2.1, .int .i64 m.2.2.2.2.2.1, .int .i64 m.2.2.2.2.2.2.1, .int .i64 m.2.2.2.2.2.2.2.1, .int .i64 m.2.2.2.2.2.2.2.2] w13 := B0_12.kept k13 (by omega)
          have B1_13 : Arr (w.heap.size + 1) [.int .i64 0, .int .i64 0, .int .i64 0, .int .i64 0] w13 := B1_12.kept k13 (by omega)
          have z13 := B1_13.lies
          clear c26_B0_2 c26_B0_6 K12 f12 B0_12 B1_12 k13
          have c27_B0_1 : w13.cell? ⟨w.heap.size, 1, none⟩ = some (.int .i64 m.2.1) := B0_13.c 1 (of_decide_eq_true rfl)
          have c27_B0_3 : w13.cell? ⟨w.heap.size, 3, none⟩ = some (.int .i64 m.2.2.2.1) := B0_13.c 3 (of_decide_eq_true rfl)
          go_wp2_with fail
          refine (rSub_any b r13.2 m.2.1 m.2.2.2.1 _ f13).mono ?_
          rintro e w14 ⟨rfl, f14, k14⟩
          generalize e14 : subS r13.2 m.2.1 m.2.2.2.1 = r14 at f14 ⊢
          have E14 : Hid _ := e14
          clear e14
          have K14 : Kept b w w14 := Kept.trans K13 k14
          have B0_14 : Arr w.heap.size [.int .i64 m.1, .int .i64 m.2.1, .int .i64 m.2.2.1, .int .i64 m.2.2.2.1, .int .i64 m.2.2.2.2.1, .int .i64 m.2.2.2.2.2.1, .int .i64 m.2.2.2.2.2.2.1, .int .i64 m.2.2.2.2.2.2.2.1, .int .i64 m.2.2.2.2.2.2.2.2] w14 := B0_13.kept k14 (by omega)
          have B1_14 : Arr (w.heap.size + 1) [.int .i64 0, .int .i64 0, .int .i64 0, .int .i64 0] w14 := B1_13.kept k14 (by omega)
          have z14 := B1_14.lies
          clear c27_B0_1 c27_B0_3 K13 f13 B0_13 B1_13 k14
          go_wp2_with fail
          refine wp_region_held_drew (S := fun w' => Arr w.heap.size [.int .i64 m.1, .int .i64 m.2.1, .int .i64 m.2.2.1, .int .i64 m.2.2.2.1, .int .i64 m.2.2.2.2.1, .int .i64 m.2.2.2.2.2.1, .int .i64 m.2.2.2.2.2.2.1, .int .i64 m.2.2.2.2.2.2.2.1, .int .i64 m.2.2.2.2.2.2.2.2] w') (by kernel_rfl) ((B0_14.alloc _).alloc _).drew (fun hHeld => ?_)
          refine take_at (i := 0) (v := ?v13) rfl (by kernel_rfl) (by kernel_rfl) (by kernel_rfl) (fun _ _ _ h => h) (Or.inl ⟨by rfl, ?y13⟩) hHeld ?t13
          case y13 => (intro wx hSw; go_simp <;> with_reducible rfl)
          simp only [Act.put, List.setIfInBounds_toArray, List.set_cons_zero, List.set_cons_succ]
          refine take_at (i := 1) (v := ?v14) rfl (by kernel_rfl) (by kernel_rfl) (by kernel_rfl) (fun _ _ _ h => h) (Or.inl ⟨by rfl, ?y14⟩) hHeld ?t14
          case y14 => (intro wx hSw; go_simp <;> with_reducible rfl)
          simp only [Act.put, List.setIfInBounds_toArray, List.set_cons_zero, List.set_cons_succ]
          refine take_at (i := 2) (v := ?v15) rfl (by kernel_rfl) (by kernel_rfl) (by kernel_rfl) (fun _ _ _ h => h) (Or.inl ⟨by rfl, ?y15⟩) hHeld ?t15
          case y15 => (intro wx hSw; go_simp <;> with_reducible rfl)
          simp only [Act.put, List.setIfInBounds_toArray, List.set_cons_zero, List.set_cons_succ]
          refine take_at (i := 3) (v := ?v16) rfl (by kernel_rfl) (by kernel_rfl) (by kernel_rfl) (fun _ _ _ h => h) (Or.inl ⟨by rfl, ?y16⟩) hHeld ?t16
          case y16 => (intro wx hSw; go_simp <;> with_reducible rfl)
          simp only [Act.put, List.setIfInBounds_toArray, List.set_cons_zero, List.set_cons_succ]
          refine take_at (i := 4) (v := ?v17) rfl (by kernel_rfl) (by kernel_rfl) (by kernel_rfl) (fun _ _ _ h => h) (Or.inl ⟨by rfl, ?y17⟩) hHeld ?t17
          case y17 => (intro wx hSw; go_simp <;> with_reducible rfl)
          simp only [Act.put, List.setIfInBounds_toArray, List.set_cons_zero, List.set_cons_succ]
          refine take_at (i := 5) (v := ?v18) rfl (by kernel_rfl) (by kernel_rfl) (by kernel_rfl) (fun _ _ _ h => h) (Or.inl ⟨by rfl, ?y18⟩) hHeld ?t18
          case y18 => (intro wx hSw; go_simp <;> with_reducible rfl)
          simp only [Act.put, List.setIfInBounds_toArray, List.set_cons_zero, List.set_cons_succ]
          refine take_at (i := 6) (v := ?v19) rfl (by kernel_rfl) (by kernel_rfl) (by kernel_rfl) (fun _ _ _ h => h) (Or.inl ⟨by rfl, ?y19⟩) hHeld ?t19
          case y19 => (intro wx hSw; go_simp <;> with_reducible rfl)
          simp only [Act.put, List.setIfInBounds_toArray, List.set_cons_zero, List.set_cons_succ]
          refine take_at (i := 7) (v := ?v20) rfl (by kernel_rfl) (by kernel_rfl) (by kernel_rfl) (fun _ _ _ h => h) (Or.inl ⟨by rfl, ?y20⟩) hHeld ?t20
          case y20 => (intro wx hSw; go_simp <;> with_reducible rfl)
          simp only [Act.put, List.setIfInBounds_toArray, List.set_cons_zero, List.set_cons_succ]
          refine take_at (i := 8) (v := ?v21) rfl (by kernel_rfl) (by kernel_rfl) (by kernel_rfl) (fun _ _ _ h => h) (Or.inl ⟨by rfl, ?y21⟩) hHeld ?t21
          case y21 => (intro wx hSw; have hc8 : wx.cell? ⟨w.heap.size, 8, none⟩ = some (.int .i64 m.2.2.2.2.2.2.2.2) := hSw.c 8 (of_decide_eq_true rfl); go_simp <;> with_reducible rfl)
          simp only [Act.put, List.setIfInBounds_toArray, List.set_cons_zero, List.set_cons_succ]
          refine take_at (i := 10) (v := ?v22) rfl (by kernel_rfl) (by kernel_rfl) (by kernel_rfl) (fun _ _ _ h => h) (Or.inl ⟨by rfl, ?y22⟩) hHeld ?t22
          case y22 => (intro wx hSw; go_simp <;> with_reducible rfl)
          simp only [Act.put, List.setIfInBounds_toArray, List.set_cons_zero, List.set_cons_succ]
          refine take_at (i := 11) (v := ?v23) rfl (by kernel_rfl) (by kernel_rfl) (by kernel_rfl) (fun _ _ _ h => h) (Or.inl ⟨by rfl, ?y23⟩) hHeld ?t23
          case y23 => (intro wx hSw; go_simp <;> with_reducible rfl)
          simp only [Act.put, List.setIfInBounds_toArray, List.set_cons_zero, List.set_cons_succ]
          refine take_at (i := 12) (v := ?v24) rfl (by kernel_rfl) (by kernel_rfl) (by kernel_rfl) (fun _ _ _ h => h) (Or.inl ⟨by rfl, ?y24⟩) hHeld ?t24
          case y24 => (intro wx hSw; go_simp <;> with_reducible rfl)
          simp only [Act.put, List.setIfInBounds_toArray, List.set_cons_zero, List.set_cons_succ]
          refine take_at (i := 13) (v := ?v25) rfl (by kernel_rfl) (by kernel_rfl) (by kernel_rfl) (fun _ _ _ h => h) (Or.inl ⟨by rfl, ?y25⟩) hHeld ?t25
          case y25 => (intro wx hSw; go_simp <;> with_reducible rfl)
          simp only [Act.put, List.setIfInBounds_toArray, List.set_cons_zero, List.set_cons_succ]
          refine take_at (i := 14) (v := ?v26) rfl (by kernel_rfl) (by kernel_rfl) (by kernel_rfl) (fun _ _ _ h => h) (Or.inl ⟨by rfl, ?y26⟩) hHeld ?t26
          case y26 => (intro wx hSw; have hc0 : wx.cell? ⟨w.heap.size, 0, none⟩ = some (.int .i64 m.1) := hSw.c 0 (of_decide_eq_true rfl); go_simp <;> with_reducible rfl)
          simp only [Act.put, List.setIfInBounds_toArray, List.set_cons_zero, List.set_cons_succ]
          refine take_at (i := 16) (v := ?v27) rfl (by kernel_rfl) (by kernel_rfl) (by kernel_rfl) (fun _ _ _ h => h) (Or.inl ⟨by rfl, ?y27⟩) hHeld ?t27
          case y27 => (intro wx hSw; go_simp <;> with_reducible rfl)
          simp only [Act.put, List.setIfInBounds_toArray, List.set_cons_zero, List.set_cons_succ]
          refine take_at (i := 17) (v := ?v28) rfl (by kernel_rfl) (by kernel_rfl) (by kernel_rfl) (fun _ _ _ h => h) (Or.inl ⟨by rfl, ?y28⟩) hHeld ?t28
          case y28 => (intro wx hSw; go_simp <;> with_reducible rfl)
          simp only [Act.put, List.setIfInBounds_toArray, List.set_cons_zero, List.set_cons_succ]
          refine take_at (i := 18) (v := ?v29) rfl (by kernel_rfl) (by kernel_rfl) (by kernel_rfl) (fun _ _ _ h => h) (Or.inl ⟨by rfl, ?y29⟩) hHeld ?t29
          case y29 => (intro wx hSw; go_simp <;> with_reducible rfl)
          simp only [Act.put, List.setIfInBounds_toArray, List.set_cons_zero, List.set_cons_succ]
          refine take_at (i := 19) (v := ?v30) rfl (by kernel_rfl) (by kernel_rfl) (by kernel_rfl) (fun _ _ _ h => h) (Or.inl ⟨by rfl, ?y30⟩) hHeld ?t30
          case y30 => (intro wx hSw; go_simp <;> with_reducible rfl)
          simp only [Act.put, List.setIfInBounds_toArray, List.set_cons_zero, List.set_cons_succ]
          refine take_at (i := 20) (v := ?v31) rfl (by kernel_rfl) (by kernel_rfl) (by kernel_rfl) (fun _ _ _ h => h) (Or.inl ⟨by rfl, ?y31⟩) hHeld ?t31
          case y31 => (intro wx hSw; have hc4 : wx.cell? ⟨w.heap.size, 4, none⟩ = some (.int .i64 m.2.2.2.2.1) := hSw.c 4 (of_decide_eq_true rfl); go_simp <;> with_reducible rfl)
          simp only [Act.put, List.setIfInBounds_toArray, List.set_cons_zero, List.set_cons_succ]
          refine call_at (i := 9) (by kernel_rfl) rfl (fun K hK => ?_)
          go_simp
          refine (rAdd_any b r14.2 1099511627776 m.2.2.2.2.2.2.2.2 _ ((f14.alloc _).alloc _).drew).mono ?_
          rintro e w15 ⟨rfl, f15, k15⟩
          generalize e15 : addS r14.2 1099511627776 m.2.2.2.2.2.2.2.2 = r15 at f15 ⊢
          have E15 : Hid _ := e15
          clear e15
          have K15 : Kept b w w15 := Kept.trans ((K14.al _).al _).drew k15
          have B0_15 : Arr w.heap.size [.int .i64 m.1, .int .i64 m.2.1, .int .i64 m.2.2.1, .int .i64 m.2.2.2.1, .int .i64 m.2.2.2.2.1, .int .i64 m.2.2.2.2.2.1, .int .i64 m.2.2.2.2.2.2.1, .int .i64 m.2.2.2.2.2.2.2.1, .int .i64 m.2.2.2.2.2.2.2.2] w15 := ((B0_14.alloc _).alloc _).drew.kept k15 (by omega)
          have B1_15 : Arr (w.heap.size + 1) [.int .i64 0, .int .i64 0, .int .i64 0, .int .i64 0] w15 := ((B1_14.alloc _).alloc _).drew.kept k15 (by omega)
          have B2_15 : Arr w14.heap.size [.int .i64 0, .int .i64 0, .int .i64 0, .int .i64 0] w15 := ((Arr_at _ _ [.int .i64 0, .int .i64 0, .int .i64 0, .int .i64 0] _ (by simp)).alloc _).drew.kept k15 (by omega)
          have B3_15 : Arr (w14.heap.size + 1) [.int .i64 r12.1, .int .i64 r13.1, .int .i64 r14.1] w15 := (Arr_at _ _ [.int .i64 r12.1, .int .i64 r13.1, .int .i64 r14.1] _ (by simp)).drew.kept k15 (by omega)
          have z15 := B3_15.lies
          clear hHeld
          refine hK.out _ _ B0_15 (fun hHeld => ?_)
          clear hK K K14 f14 B0_14 B1_14 k15
          refine call_at (i := 15) (by kernel_rfl) rfl (fun K hK => ?_)
          go_simp
          refine (rSub_any b r15.2 r15.1 m.1 _ f15).mono ?_
          rintro e w16 ⟨rfl, f16, k16⟩
          generalize e16 : subS r15.2 r15.1 m.1 = r16 at f16 ⊢
          have E16 : Hid _ := e16
          clear e16
          have K16 : Kept b w w16 := Kept.trans K15 k16
          have B0_16 : Arr w.heap.size [.int .i64 m.1, .int .i64 m.2.1, .int .i64 m.2.2.1, .int .i64 m.2.2.2.1, .int .i64 m.2.2.2.2.1, .int .i64 m.2.2.2.2.2.1, .int .i64 m.2.2.2.2.2.2.1, .int .i64 m.2.2.2.2.2.2.2.1, .int .i64 m.2.2.2.2.2.2.2.2] w16 := B0_15.kept k16 (by omega)
          have B1_16 : Arr (w.heap.size + 1) [.int .i64 0, .int .i64 0, .int .i64 0, .int .i64 0] w16 := B1_15.kept k16 (by omega)
          have B2_16 : Arr w14.heap.size [.int .i64 0, .int .i64 0, .int .i64 0, .int .i64 0] w16 := B2_15.kept k16 (by omega)
          have B3_16 : Arr (w14.heap.size + 1) [.int .i64 r12.1, .int .i64 r13.1, .int .i64 r14.1] w16 := B3_15.kept k16 (by omega)
          have z16 := B3_16.lies
          clear hHeld
          refine hK.out _ _ B0_16 (fun hHeld => ?_)
          clear hK K K15 f15 B0_15 B1_15 B2_15 B3_15 k16
          refine call_at (i := 21) (by kernel_rfl) rfl (fun K hK => ?_)
          go_simp
          refine (rSub_any b r16.2 r16.1 m.2.2.2.2.1 _ f16).mono ?_
          rintro e w17 ⟨rfl, f17, k17⟩
          generalize e17 : subS r16.2 r16.1 m.2.2.2.2.1 = r17 at f17 ⊢
          have E17 : Hid _ := e17
          clear e17
          have K17 : Kept b w w17 := Kept.trans K16 k17
          have B0_17 : Arr w.heap.size [.int .i64 m.1, .int .i64 m.2.1, .int .i64 m.2.2.1, .int .i64 m.2.2.2.1, .int .i64 m.2.2.2.2.1, .int .i64 m.2.2.2.2.2.1, .int .i64 m.2.2.2.2.2.2.1, .int .i64 m.2.2.2.2.2.2.2.1, .int .i64 m.2.2.2.2.2.2.2.2] w17 := B0_16.kept k17 (by omega)
          have B1_17 : Arr (w.heap.size + 1) [.int .i64 0, .int .i64 0, .int .i64 0, .int .i64 0] w17 := B1_16.kept k17 (by omega)
          have B2_17 : Arr w14.heap.size [.int .i64 0, .int .i64 0, .int .i64 0, .int .i64 0] w17 := B2_16.kept k17 (by omega)
          have B3_17 : Arr (w14.heap.size + 1) [.int .i64 r12.1, .int .i64 r13.1, .int .i64 r14.1] w17 := B3_16.kept k17 (by omega)
          have z17 := B3_17.lies
          clear hHeld
          refine hK.out _ _ B0_17 (fun hHeld => ?_)
          clear hK K K16 f16 B0_16 B1_16 B2_16 B3_16 k17
          refine take_at (i := 22) (v := ?v32) rfl (by kernel_rfl) (by kernel_rfl) (by kernel_rfl) (fun _ _ _ h => h) (Or.inl ⟨by rfl, ?y32⟩) hHeld ?t32
          case y32 => (intro wx hSw; go_simp <;> with_reducible rfl)
          simp only [Act.put, List.setIfInBounds_toArray, List.set_cons_zero, List.set_cons_succ]
          refine call_at (i := 23) (by kernel_rfl) rfl (fun K hK => ?_)
          have c29_B2_2 : w17.cell? ⟨w14.heap.size, 2, none⟩ = some (.int .i64 0) := B2_17.c 2 (of_decide_eq_true rfl)
          have g29_B2_2 := B2_17.f 2 (of_decide_eq_true rfl)
          go_simp
          clear hHeld
          refine hK.out _ _ (B0_17.new w14.heap.size 2 (by omega) (.int .i64 r17.1)) (fun hHeld => ?_)
          clear hK K c29_B2_2 g29_B2_2
          refine wpAnyH_done (by kernel_rfl) ?_ _
          clear hHeld
          go_wp2_with fail
          refine wp_region_held_drew (S := fun w' => Arr w.heap.size [.int .i64 m.1, .int .i64 m.2.1, .int .i64 m.2.2.1, .int .i64 m.2.2.2.1, .int .i64 m.2.2.2.2.1, .int .i64 m.2.2.2.2.2.1, .int .i64 m.2.2.2.2.2.2.1, .int .i64 m.2.2.2.2.2.2.2.1, .int .i64 m.2.2.2.2.2.2.2.2] w') (by kernel_rfl) (B0_17.new w14.heap.size 2 (by omega) (.int .i64 r17.1)).drew (fun hHeld => ?_)
          refine take_at (i := 0) (v := ?v33) rfl (by kernel_rfl) (by kernel_rfl) (by kernel_rfl) (fun _ _ _ h => h) (Or.inl ⟨by rfl, ?y33⟩) hHeld ?t33
          case y33 => (intro wx hSw; go_simp <;> with_reducible rfl)
          simp only [Act.put, List.setIfInBounds_toArray, List.set_cons_zero, List.set_cons_succ]
          refine take_at (i := 1) (v := ?v34) rfl (by kernel_rfl) (by kernel_rfl) (by kernel_rfl) (fun _ _ _ h => h) (Or.inl ⟨by rfl, ?y34⟩) hHeld ?t34
          case y34 => (intro wx hSw; go_simp <;> with_reducible rfl)
          simp only [Act.put, List.setIfInBounds_toArray, List.set_cons_zero, List.set_cons_succ]
          refine take_at (i := 2) (v := ?v35) rfl (by kernel_rfl) (by kernel_rfl) (by kernel_rfl) (fun _ _ _ h => h) (Or.inl ⟨by rfl, ?y35⟩) hHeld ?t35
          case y35 => (intro wx hSw; go_simp <;> with_reducible rfl)
          simp only [Act.put, List.setIfInBounds_toArray, List.set_cons_zero, List.set_cons_succ]
          refine take_at (i := 3) (v := ?v36) rfl (by kernel_rfl) (by kernel_rfl) (by kernel_rfl) (fun _ _ _ h => h) (Or.inl ⟨by rfl, ?y36⟩) hHeld ?t36
          case y36 => (intro wx hSw; go_simp <;> with_reducible rfl)
          simp only [Act.put, List.setIfInBounds_toArray, List.set_cons_zero, List.set_cons_succ]
          refine take_at (i := 4) (v := ?v37) rfl (by kernel_rfl) (by kernel_rfl) (by kernel_rfl) (fun _ _ _ h => h) (Or.inl ⟨by rfl, ?y37⟩) hHeld ?t37
          case y37 => (intro wx hSw; go_simp <;> with_reducible rfl)
          simp only [Act.put, List.setIfInBounds_toArray, List.set_cons_zero, List.set_cons_succ]
          refine take_at (i := 5) (v := ?v38) rfl (by kernel_rfl) (by kernel_rfl) (by kernel_rfl) (fun _ _ _ h => h) (Or.inl ⟨by rfl, ?y38⟩) hHeld ?t38
          case y38 => (intro wx hSw; go_simp <;> with_reducible rfl)
          simp only [Act.put, List.setIfInBounds_toArray, List.set_cons_zero, List.set_cons_succ]
          refine take_at (i := 6) (v := ?v39) rfl (by kernel_rfl) (by kernel_rfl) (by kernel_rfl) (fun _ _ _ h => h) (Or.inl ⟨by rfl, ?y39⟩) hHeld ?t39
          case y39 => (intro wx hSw; have hc6 : wx.cell? ⟨w.heap.size, 6, none⟩ = some (.int .i64 m.2.2.2.2.2.2.1) := hSw.c 6 (of_decide_eq_true rfl); go_simp <;> with_reducible rfl)
          simp only [Act.put, List.setIfInBounds_toArray, List.set_cons_zero, List.set_cons_succ]
          refine take_at (i := 7) (v := ?v40) rfl (by kernel_rfl) (by kernel_rfl) (by kernel_rfl) (fun _ _ _ h => h) (Or.inl ⟨by rfl, ?y40⟩) hHeld ?t40
          case y40 => (intro wx hSw; go_simp <;> with_reducible rfl)
          simp only [Act.put, List.setIfInBounds_toArray, List.set_cons_zero, List.set_cons_succ]
          refine take_at (i := 8) (v := ?v41) rfl (by kernel_rfl) (by kernel_rfl) (by kernel_rfl) (fun _ _ _ h => h) (Or.inl ⟨by rfl, ?y41⟩) hHeld ?t41
          case y41 => (intro wx hSw; go_simp <;> with_reducible rfl)
          simp only [Act.put, List.setIfInBounds_toArray, List.set_cons_zero, List.set_cons_succ]
          refine take_at (i := 9) (v := ?v42) rfl (by kernel_rfl) (by kernel_rfl) (by kernel_rfl) (fun _ _ _ h => h) (Or.inl ⟨by rfl, ?y42⟩) hHeld ?t42
          case y42 => (intro wx hSw; go_simp <;> with_reducible rfl)
          simp only [Act.put, List.setIfInBounds_toArray, List.set_cons_zero, List.set_cons_succ]
          refine take_at (i := 10) (v := ?v43) rfl (by kernel_rfl) (by kernel_rfl) (by kernel_rfl) (fun _ _ _ h => h) (Or.inl ⟨by rfl, ?y43⟩) hHeld ?t43
          case y43 => (intro wx hSw; go_simp <;> with_reducible rfl)
          simp only [Act.put, List.setIfInBounds_toArray, List.set_cons_zero, List.set_cons_succ]
          refine take_at (i := 11) (v := ?v44) rfl (by kernel_rfl) (by kernel_rfl) (by kernel_rfl) (fun _ _ _ h => h) (Or.inl ⟨by rfl, ?y44⟩) hHeld ?t44
          case y44 => (intro wx hSw; have hc2 : wx.cell? ⟨w.heap.size, 2, none⟩ = some (.int .i64 m.2.2.1) := hSw.c 2 (of_decide_eq_true rfl); go_simp <;> with_reducible rfl)
          simp only [Act.put, List.setIfInBounds_toArray, List.set_cons_zero, List.set_cons_succ]
          refine call_at (i := 12) (by kernel_rfl) rfl (fun K hK => ?_)
          go_simp
          refine (rAdd_any b r17.2 m.2.2.2.2.2.2.1 m.2.2.1 _ (f17.new w14.heap.size 2 (by omega) (.int .i64 r17.1)).drew).mono ?_
          rintro e w18 ⟨rfl, f18, k18⟩
          generalize e18 : addS r17.2 m.2.2.2.2.2.2.1 m.2.2.1 = r18 at f18 ⊢
          have E18 : Hid _ := e18
          clear e18
          have K18 : Kept b w w18 := Kept.trans (K17.new _ _ (by omega) _).drew k18
          have B0_18 : Arr w.heap.size [.int .i64 m.1, .int .i64 m.2.1, .int .i64 m.2.2.1, .int .i64 m.2.2.2.1, .int .i64 m.2.2.2.2.1, .int .i64 m.2.2.2.2.2.1, .int .i64 m.2.2.2.2.2.2.1, .int .i64 m.2.2.2.2.2.2.2.1, .int .i64 m.2.2.2.2.2.2.2.2] w18 := (B0_17.new w14.heap.size 2 (by omega) (.int .i64 r17.1)).drew.kept k18 (by omega)
          have B1_18 : Arr (w.heap.size + 1) [.int .i64 0, .int .i64 0, .int .i64 0, .int .i64 0] w18 := (B1_17.new w14.heap.size 2 (by omega) (.int .i64 r17.1)).drew.kept k18 (by omega)
          have B2_18 : Arr w14.heap.size [.int .i64 0, .int .i64 0, .int .i64 r17.1, .int .i64 0] w18 := (B2_17.put 2 (of_decide_eq_true rfl) (.int .i64 r17.1) [.int .i64 0, .int .i64 0, .int .i64 r17.1, .int .i64 0] rfl).drew.kept k18 (by omega)
          have B3_18 : Arr (w14.heap.size + 1) [.int .i64 r12.1, .int .i64 r13.1, .int .i64 r14.1] w18 := (B3_17.new w14.heap.size 2 (by omega) (.int .i64 r17.1)).drew.kept k18 (by omega)
          have z18 := B3_18.lies
          clear hHeld
          refine hK.out _ _ B0_18 (fun hHeld => ?_)
          clear hK K K17 f17 B0_17 B1_17 B2_17 B3_17 k18
          refine take_at (i := 13) (v := ?v45) rfl (by kernel_rfl) (by kernel_rfl) (by kernel_rfl) (fun _ _ _ h => h) (Or.inl ⟨by rfl, ?y45⟩) hHeld ?t45
          case y45 => (intro wx hSw; go_simp <;> with_reducible rfl)
          simp only [Act.put, List.setIfInBounds_toArray, List.set_cons_zero, List.set_cons_succ]
          refine call_at (i := 14) (by kernel_rfl) rfl (fun K hK => ?_)
          have c31_B2_0 : w18.cell? ⟨w14.heap.size, 0, none⟩ = some (.int .i64 0) := B2_18.c 0 (of_decide_eq_true rfl)
          have g31_B2_0 := B2_18.f 0 (of_decide_eq_true rfl)
          go_simp
          clear hHeld
          refine hK.out _ _ (B0_18.new w14.heap.size 0 (by omega) (.int .i64 r18.1)) (fun hHeld => ?_)
          clear hK K c31_B2_0 g31_B2_0
          refine wpAnyH_done (by kernel_rfl) ?_ _
          clear hHeld
          go_wp2_with fail
          refine wp_region_held_drew (S := fun w' => Arr w.heap.size [.int .i64 m.1, .int .i64 m.2.1, .int .i64 m.2.2.1, .int .i64 m.2.2.2.1, .int .i64 m.2.2.2.2.1, .int .i64 m.2.2.2.2.2.1, .int .i64 m.2.2.2.2.2.2.1, .int .i64 m.2.2.2.2.2.2.2.1, .int .i64 m.2.2.2.2.2.2.2.2] w') (by kernel_rfl) (B0_18.new w14.heap.size 0 (by omega) (.int .i64 r18.1)).drew (fun hHeld => ?_)
          refine take_at (i := 0) (v := ?v46) rfl (by kernel_rfl) (by kernel_rfl) (by kernel_rfl) (fun _ _ _ h => h) (Or.inl ⟨by rfl, ?y46⟩) hHeld ?t46
          case y46 => (intro wx hSw; go_simp <;> with_reducible rfl)
          simp only [Act.put, List.setIfInBounds_toArray, List.set_cons_zero, List.set_cons_succ]
          refine take_at (i := 1) (v := ?v47) rfl (by kernel_rfl) (by kernel_rfl) (by kernel_rfl) (fun _ _ _ h => h) (Or.inl ⟨by rfl, ?y47⟩) hHeld ?t47
          case y47 => (intro wx hSw; go_simp <;> with_reducible rfl)
          simp only [Act.put, List.setIfInBounds_toArray, List.set_cons_zero, List.set_cons_succ]
          refine take_at (i := 2) (v := ?v48) rfl (by kernel_rfl) (by kernel_rfl) (by kernel_rfl) (fun _ _ _ h => h) (Or.inl ⟨by rfl, ?y48⟩) hHeld ?t48
          case y48 => (intro wx hSw; go_simp <;> with_reducible rfl)
          simp only [Act.put, List.setIfInBounds_toArray, List.set_cons_zero, List.set_cons_succ]
          refine take_at (i := 3) (v := ?v49) rfl (by kernel_rfl) (by kernel_rfl) (by kernel_rfl) (fun _ _ _ h => h) (Or.inl ⟨by rfl, ?y49⟩) hHeld ?t49
          case y49 => (intro wx hSw; go_simp <;> with_reducible rfl)
          simp only [Act.put, List.setIfInBounds_toArray, List.set_cons_zero, List.set_cons_succ]
          refine take_at (i := 4) (v := ?v50) rfl (by kernel_rfl) (by kernel_rfl) (by kernel_rfl) (fun _ _ _ h => h) (Or.inl ⟨by rfl, ?y50⟩) hHeld ?t50
          case y50 => (intro wx hSw; go_simp <;> with_reducible rfl)
          simp only [Act.put, List.setIfInBounds_toArray, List.set_cons_zero, List.set_cons_succ]
          refine take_at (i := 5) (v := ?v51) rfl (by kernel_rfl) (by kernel_rfl) (by kernel_rfl) (fun _ _ _ h => h) (Or.inl ⟨by rfl, ?y51⟩) hHeld ?t51
          case y51 => (intro wx hSw; go_simp <;> with_reducible rfl)
          simp only [Act.put, List.setIfInBounds_toArray, List.set_cons_zero, List.set_cons_succ]
          refine take_at (i := 6) (v := ?v52) rfl (by kernel_rfl) (by kernel_rfl) (by kernel_rfl) (fun _ _ _ h => h) (Or.inl ⟨by rfl, ?y52⟩) hHeld ?t52
          case y52 => (intro wx hSw; have hc7 : wx.cell? ⟨w.heap.size, 7, none⟩ = some (.int .i64 m.2.2.2.2.2.2.2.1) := hSw.c 7 (of_decide_eq_true rfl); go_simp <;> with_reducible rfl)
          simp only [Act.put, List.setIfInBounds_toArray, List.set_cons_zero, List.set_cons_succ]
          refine take_at (i := 7) (v := ?v53) rfl (by kernel_rfl) (by kernel_rfl) (by kernel_rfl) (fun _ _ _ h => h) (Or.inl ⟨by rfl, ?y53⟩) hHeld ?t53
          case y53 => (intro wx hSw; go_simp <;> with_reducible rfl)
          simp only [Act.put, List.setIfInBounds_toArray, List.set_cons_zero, List.set_cons_succ]
          refine take_at (i := 8) (v := ?v54) rfl (by kernel_rfl) (by kernel_rfl) (by kernel_rfl) (fun _ _ _ h => h) (Or.inl ⟨by rfl, ?y54⟩) hHeld ?t54
          case y54 => (intro wx hSw; go_simp <;> with_reducible rfl)
          simp only [Act.put, List.setIfInBounds_toArray, List.set_cons_zero, List.set_cons_succ]
          refine take_at (i := 9) (v := ?v55) rfl (by kernel_rfl) (by kernel_rfl) (by kernel_rfl) (fun _ _ _ h => h) (Or.inl ⟨by rfl, ?y55⟩) hHeld ?t55
          case y55 => (intro wx hSw; go_simp <;> with_reducible rfl)
          simp only [Act.put, List.setIfInBounds_toArray, List.set_cons_zero, List.set_cons_succ]
          refine take_at (i := 10) (v := ?v56) rfl (by kernel_rfl) (by kernel_rfl) (by kernel_rfl) (fun _ _ _ h => h) (Or.inl ⟨by rfl, ?y56⟩) hHeld ?t56
          case y56 => (intro wx hSw; go_simp <;> with_reducible rfl)
          simp only [Act.put, List.setIfInBounds_toArray, List.set_cons_zero, List.set_cons_succ]
          refine take_at (i := 11) (v := ?v57) rfl (by kernel_rfl) (by kernel_rfl) (by kernel_rfl) (fun _ _ _ h => h) (Or.inl ⟨by rfl, ?y57⟩) hHeld ?t57
          case y57 => (intro wx hSw; have hc5 : wx.cell? ⟨w.heap.size, 5, none⟩ = some (.int .i64 m.2.2.2.2.2.1) := hSw.c 5 (of_decide_eq_true rfl); go_simp <;> with_reducible rfl)
          simp only [Act.put, List.setIfInBounds_toArray, List.set_cons_zero, List.set_cons_succ]
          refine call_at (i := 12) (by kernel_rfl) rfl (fun K hK => ?_)
          go_simp
          refine (rAdd_any b r18.2 m.2.2.2.2.2.2.2.1 m.2.2.2.2.2.1 _ (f18.new w14.heap.size 0 (by omega) (.int .i64 r18.1)).drew).mono ?_
          rintro e w19 ⟨rfl, f19, k19⟩
          generalize e19 : addS r18.2 m.2.2.2.2.2.2.2.1 m.2.2.2.2.2.1 = r19 at f19 ⊢
          have E19 : Hid _ := e19
          clear e19
          have K19 : Kept b w w19 := Kept.trans (K18.new _ _ (by omega) _).drew k19
          have B0_19 : Arr w.heap.size [.int .i64 m.1, .int .i64 m.2.1, .int .i64 m.2.2.1, .int .i64 m.2.2.2.1, .int .i64 m.2.2.2.2.1, .int .i64 m.2.2.2.2.2.1, .int .i64 m.2.2.2.2.2.2.1, .int .i64 m.2.2.2.2.2.2.2.1, .int .i64 m.2.2.2.2.2.2.2.2] w19 := (B0_18.new w14.heap.size 0 (by omega) (.int .i64 r18.1)).drew.kept k19 (by omega)
          have B1_19 : Arr (w.heap.size + 1) [.int .i64 0, .int .i64 0, .int .i64 0, .int .i64 0] w19 := (B1_18.new w14.heap.size 0 (by omega) (.int .i64 r18.1)).drew.kept k19 (by omega)
          have B2_19 : Arr w14.heap.size [.int .i64 r18.1, .int .i64 0, .int .i64 r17.1, .int .i64 0] w19 := (B2_18.put 0 (of_decide_eq_true rfl) (.int .i64 r18.1) [.int .i64 r18.1, .int .i64 0, .int .i64 r17.1, .int .i64 0] rfl).drew.kept k19 (by omega)
          have B3_19 : Arr (w14.heap.size + 1) [.int .i64 r12.1, .int .i64 r13.1, .int .i64 r14.1] w19 := (B3_18.new w14.heap.size 0 (by omega) (.int .i64 r18.1)).drew.kept k19 (by omega)
          have z19 := B3_19.lies
          clear hHeld
          refine hK.out _ _ B0_19 (fun hHeld => ?_)
          clear hK K K18 f18 B0_18 B1_18 B2_18 B3_18 k19
          refine take_at (i := 13) (v := ?v58) rfl (by kernel_rfl) (by kernel_rfl) (by kernel_rfl) (fun _ _ _ h => h) (Or.inl ⟨by rfl, ?y58⟩) hHeld ?t58
          case y58 => (intro wx hSw; go_simp <;> with_reducible rfl)
          simp only [Act.put, List.setIfInBounds_toArray, List.set_cons_zero, List.set_cons_succ]
          refine call_at (i := 14) (by kernel_rfl) rfl (fun K hK => ?_)
          have c33_B2_1 : w19.cell? ⟨w14.heap.size, 1, none⟩ = some (.int .i64 0) := B2_19.c 1 (of_decide_eq_true rfl)
          have g33_B2_1 := B2_19.f 1 (of_decide_eq_true rfl)
          go_simp
          clear hHeld
          refine hK.out _ _ (B0_19.new w14.heap.size 1 (by omega) (.int .i64 r19.1)) (fun hHeld => ?_)
          clear hK K c33_B2_1 g33_B2_1
          refine wpAnyH_done (by kernel_rfl) ?_ _
          clear hHeld
          have c34_B2_0 : w19.cell? ⟨w14.heap.size, 0, none⟩ = some (.int .i64 r18.1) := B2_19.c 0 (of_decide_eq_true rfl)
          have c34_B2_1 : w19.cell? ⟨w14.heap.size, 1, none⟩ = some (.int .i64 0) := B2_19.c 1 (of_decide_eq_true rfl)
          have c34_B2_2 : w19.cell? ⟨w14.heap.size, 2, none⟩ = some (.int .i64 r17.1) := B2_19.c 2 (of_decide_eq_true rfl)
          have c34_B2_3 : w19.cell? ⟨w14.heap.size, 3, none⟩ = some (.int .i64 0) := B2_19.c 3 (of_decide_eq_true rfl)
          have c34_B3_2 : w19.cell? ⟨w14.heap.size + 1, 2, none⟩ = some (.int .i64 r14.1) := B3_19.c 2 (of_decide_eq_true rfl)
          have g34_B2_3 := B2_19.f 3 (of_decide_eq_true rfl)
          go_wp2_with fail
          refine (xUnit_any b r19.2 (r18.1, r19.1, r17.1, r14.1) _ ((f19.new w14.heap.size 1 (by omega) (.int .i64 r19.1)).new w14.heap.size 3 (by omega) (.int .i64 r14.1))).mono ?_
          rintro e w20 ⟨rfl, f20, k20⟩
          generalize e20 : xUnitS r19.2 (r18.1, r19.1, r17.1, r14.1) = r20 at f20 ⊢
          have E20 : Hid _ := e20
          clear e20
          have K20 : Kept b w w20 := Kept.trans ((K19.new _ _ (by omega) _).new _ _ (by omega) _) k20
          have B0_20 : Arr w.heap.size [.int .i64 m.1, .int .i64 m.2.1, .int .i64 m.2.2.1, .int .i64 m.2.2.2.1, .int .i64 m.2.2.2.2.1, .int .i64 m.2.2.2.2.2.1, .int .i64 m.2.2.2.2.2.2.1, .int .i64 m.2.2.2.2.2.2.2.1, .int .i64 m.2.2.2.2.2.2.2.2] w20 := ((B0_19.new w14.heap.size 1 (by omega) (.int .i64 r19.1)).new w14.heap.size 3 (by omega) (.int .i64 r14.1)).kept k20 (by omega)
          have B1_20 : Arr (w.heap.size + 1) [.int .i64 0, .int .i64 0, .int .i64 0, .int .i64 0] w20 := ((B1_19.new w14.heap.size 1 (by omega) (.int .i64 r19.1)).new w14.heap.size 3 (by omega) (.int .i64 r14.1)).kept k20 (by omega)
          have B2_20 : Arr w14.heap.size [.int .i64 r18.1, .int .i64 r19.1, .int .i64 r17.1, .int .i64 r14.1] w20 := ((B2_19.put 1 (of_decide_eq_true rfl) (.int .i64 r19.1) [.int .i64 r18.1, .int .i64 r19.1, .int .i64 r17.1, .int .i64 0] rfl).put 3 (of_decide_eq_true rfl) (.int .i64 r14.1) [.int .i64 r18.1, .int .i64 r19.1, .int .i64 r17.1, .int .i64 r14.1] rfl).kept k20 (by omega)
          have B3_20 : Arr (w14.heap.size + 1) [.int .i64 r12.1, .int .i64 r13.1, .int .i64 r14.1] w20 := ((B3_19.new w14.heap.size 1 (by omega) (.int .i64 r19.1)).new w14.heap.size 3 (by omega) (.int .i64 r14.1)).kept k20 (by omega)
          have z20 := B3_20.lies
          clear c34_B2_0 c34_B2_1 c34_B2_2 c34_B2_3 c34_B3_2 g34_B2_3 K19 f19 B0_19 B1_19 B2_19 B3_19 k20
          have c35_B1_0 : w20.cell? ⟨w.heap.size + 1, 0, none⟩ = some (.int .i64 0) := B1_20.c 0 (of_decide_eq_true rfl)
          have c35_B1_1 : w20.cell? ⟨w.heap.size + 1, 1, none⟩ = some (.int .i64 0) := B1_20.c 1 (of_decide_eq_true rfl)
          have c35_B1_2 : w20.cell? ⟨w.heap.size + 1, 2, none⟩ = some (.int .i64 0) := B1_20.c 2 (of_decide_eq_true rfl)
          have c35_B1_3 : w20.cell? ⟨w.heap.size + 1, 3, none⟩ = some (.int .i64 0) := B1_20.c 3 (of_decide_eq_true rfl)
          have g35_B1_0 := B1_20.f 0 (of_decide_eq_true rfl)
          have g35_B1_1 := B1_20.f 1 (of_decide_eq_true rfl)
          have g35_B1_2 := B1_20.f 2 (of_decide_eq_true rfl)
          have g35_B1_3 := B1_20.f 3 (of_decide_eq_true rfl)
          go_wp2_with (with_reducible refine post_stop ?_)
          refine Stop.mk ?_
          clear c35_B1_0 c35_B1_1 c35_B1_2 c35_B1_3 g35_B1_0 g35_B1_1 g35_B1_2 g35_B1_3
          refine bodyPost_ret (v := .agg #[.int .i64 r20.1.1, .int .i64 r20.1.2.1, .int .i64 r20.1.2.2.1, .int .i64 r20.1.2.2.2]) (results_arr Try.results29 ((((B1_20.put 0 (of_decide_eq_true rfl) (.int .i64 r20.1.1) [.int .i64 r20.1.1, .int .i64 0, .int .i64 0, .int .i64 0] rfl).put 1 (of_decide_eq_true rfl) (.int .i64 r20.1.2.1) [.int .i64 r20.1.1, .int .i64 r20.1.2.1, .int .i64 0, .int .i64 0] rfl).put 2 (of_decide_eq_true rfl) (.int .i64 r20.1.2.2.1) [.int .i64 r20.1.1, .int .i64 r20.1.2.1, .int .i64 r20.1.2.2.1, .int .i64 0] rfl).put 3 (of_decide_eq_true rfl) (.int .i64 r20.1.2.2.2) [.int .i64 r20.1.1, .int .i64 r20.1.2.1, .int .i64 r20.1.2.2.1, .int .i64 r20.1.2.2.2] rfl) rfl (by kernel_rfl) (by kernel_rfl)) rfl ?_
          have hs : xFromMatrixS bad m = (r20.1, r20.2) := by unfold xFromMatrixS; simp only [E1.out, E2.out, E3.out, E4.out, E5.out, E6.out, E7.out, E8.out, E9.out, E10.out, E11.out, E12.out, E13.out, E14.out, E15.out, E16.out, E17.out, E18.out, E19.out, E20.out]; rw [if_neg (by rw [Hhc1.out]; decide)]; rw [if_pos (by have := Hhc2.out; omega)]; rw [if_pos (by have := Hhc3.out; omega)]; rw [if_pos (by have := Hhc4.out; omega)]
          rw [hs]
          exact ⟨rfl, ((((f20.new (w.heap.size + 1) 0 (by omega) (.int .i64 r20.1.1)).new (w.heap.size + 1) 1 (by omega) (.int .i64 r20.1.2.1)).new (w.heap.size + 1) 2 (by omega) (.int .i64 r20.1.2.2.1)).new (w.heap.size + 1) 3 (by omega) (.int .i64 r20.1.2.2.2)), ((((K20.new _ _ (by omega) _).new _ _ (by omega) _).new _ _ (by omega) _).new _ _ (by omega) _)⟩
        · have Hhc4 : Hid (¬ m.2.2.2.2.2.2.2.2 > m.2.2.2.2.1) := hc4
          have c24_B0_8 : w11.cell? ⟨w.heap.size, 8, none⟩ = some (.int .i64 m.2.2.2.2.2.2.2.2) := B0_11.c 8 (of_decide_eq_true rfl)
          go_wp2_with fail
          clear c24_B0_8
          rw [rounds_succ]
          have c25_B0_5 : w11.cell? ⟨w.heap.size, 5, none⟩ = some (.int .i64 m.2.2.2.2.2.1) := B0_11.c 5 (of_decide_eq_true rfl)
          have c25_B0_7 : w11.cell? ⟨w.heap.size, 7, none⟩ = some (.int .i64 m.2.2.2.2.2.2.2.1) := B0_11.c 7 (of_decide_eq_true rfl)
          go_wp2_with fail
          refine (rSub_any b r11.2 m.2.2.2.2.2.1 m.2.2.2.2.2.2.2.1 _ f11).mono ?_
          rintro e w12 ⟨rfl, f12, k12⟩
          generalize e12 : subS r11.2 m.2.2.2.2.2.1 m.2.2.2.2.2.2.2.1 = r12 at f12 ⊢
          have E12 : Hid _ := e12
          clear e12
          have K12 : Kept b w w12 := Kept.trans K11 k12
          have B0_12 : Arr w.heap.size [.int .i64 m.1, .int .i64 m.2.1, .int .i64 m.2.2.1, .int .i64 m.2.2.2.1, .int .i64 m.2.2.2.2.1, .int .i64 m.2.2.2.2.2.1, .int .i64 m.2.2.2.2.2.2.1, .int .i64 m.2.2.2.2.2.2.2.1, .int .i64 m.2.2.2.2.2.2.2.2] w12 := B0_11.kept k12 (by omega)
          have B1_12 : Arr (w.heap.size + 1) [.int .i64 0, .int .i64 0, .int .i64 0, .int .i64 0] w12 := B1_11.kept k12 (by omega)
          have z12 := B1_12.lies
          clear c25_B0_5 c25_B0_7 K11 f11 B0_11 B1_11 k12
          have c26_B0_2 : w12.cell? ⟨w.heap.size, 2, none⟩ = some (.int .i64 m.2.2.1) := B0_12.c 2 (of_decide_eq_true rfl)
          have c26_B0_6 : w12.cell? ⟨w.heap.size, 6, none⟩ = some (.int .i64 m.2.2.2.2.2.2.1) := B0_12.c 6 (of_decide_eq_true rfl)
          go_wp2_with fail
          refine (rSub_any b r12.2 m.2.2.2.2.2.2.1 m.2.2.1 _ f12).mono ?_
          rintro e w13 ⟨rfl, f13, k13⟩
          generalize e13 : subS r12.2 m.2.2.2.2.2.2.1 m.2.2.1 = r13 at f13 ⊢
          have E13 : Hid _ := e13
          clear e13
          have K13 : Kept b w w13 := Kept.trans K12 k13
          have B0_13 : Arr w.heap.size [.int .i64 m.1, .int .i64 m.2.1, .int .i64 m.2.2.1, .int .i64 m.2.2.2.1, .int .i64 m.2.2.2.2.1, .int .i64 m.2.2.2.2.2.1, .int .i64 m.2.2.2.2.2.2.1, .int .i64 m.2.2.2.2.2.2.2.1, .int .i64 m.2.2.2.2.2.2.2.2] w13 := B0_12.kept k13 (by omega)
          have B1_13 : Arr (w.heap.size + 1) [.int .i64 0, .int .i64 0, .int .i64 0, .int .i64 0] w13 := B1_12.kept k13 (by omega)
          have z13 := B1_13.lies
          clear c26_B0_2 c26_B0_6 K12 f12 B0_12 B1_12 k13
          have c27_B0_1 : w13.cell? ⟨w.heap.size, 1, none⟩ = some (.int .i64 m.2.1) := B0_13.c 1 (of_decide_eq_true rfl)
          have c27_B0_3 : w13.cell? ⟨w.heap.size, 3, none⟩ = some (.int .i64 m.2.2.2.1) := B0_13.c 3 (of_decide_eq_true rfl)
          go_wp2_with fail
          refine (rSub_any b r13.2 m.2.1 m.2.2.2.1 _ f13).mono ?_
          rintro e w14 ⟨rfl, f14, k14⟩
          generalize e14 : subS r13.2 m.2.1 m.2.2.2.1 = r14 at f14 ⊢
          have E14 : Hid _ := e14
          clear e14
          have K14 : Kept b w w14 := Kept.trans K13 k14
          have B0_14 : Arr w.heap.size [.int .i64 m.1, .int .i64 m.2.1, .int .i64 m.2.2.1, .int .i64 m.2.2.2.1, .int .i64 m.2.2.2.2.1, .int .i64 m.2.2.2.2.2.1, .int .i64 m.2.2.2.2.2.2.1, .int .i64 m.2.2.2.2.2.2.2.1, .int .i64 m.2.2.2.2.2.2.2.2] w14 := B0_13.kept k14 (by omega)
          have B1_14 : Arr (w.heap.size + 1) [.int .i64 0, .int .i64 0, .int .i64 0, .int .i64 0] w14 := B1_13.kept k14 (by omega)
          have z14 := B1_14.lies
          clear c27_B0_1 c27_B0_3 K13 f13 B0_13 B1_13 k14
          go_wp2_with fail
          refine wp_region_held_drew (S := fun w' => Arr w.heap.size [.int .i64 m.1, .int .i64 m.2.1, .int .i64 m.2.2.1, .int .i64 m.2.2.2.1, .int .i64 m.2.2.2.2.1, .int .i64 m.2.2.2.2.2.1, .int .i64 m.2.2.2.2.2.2.1, .int .i64 m.2.2.2.2.2.2.2.1, .int .i64 m.2.2.2.2.2.2.2.2] w') (by kernel_rfl) ((B0_14.alloc _).alloc _).drew (fun hHeld => ?_)
          refine take_at (i := 0) (v := ?v59) rfl (by kernel_rfl) (by kernel_rfl) (by kernel_rfl) (fun _ _ _ h => h) (Or.inl ⟨by rfl, ?y59⟩) hHeld ?t59
          case y59 => (intro wx hSw; go_simp <;> with_reducible rfl)
          simp only [Act.put, List.setIfInBounds_toArray, List.set_cons_zero, List.set_cons_succ]
          refine take_at (i := 1) (v := ?v60) rfl (by kernel_rfl) (by kernel_rfl) (by kernel_rfl) (fun _ _ _ h => h) (Or.inl ⟨by rfl, ?y60⟩) hHeld ?t60
          case y60 => (intro wx hSw; go_simp <;> with_reducible rfl)
          simp only [Act.put, List.setIfInBounds_toArray, List.set_cons_zero, List.set_cons_succ]
          refine take_at (i := 2) (v := ?v61) rfl (by kernel_rfl) (by kernel_rfl) (by kernel_rfl) (fun _ _ _ h => h) (Or.inl ⟨by rfl, ?y61⟩) hHeld ?t61
          case y61 => (intro wx hSw; go_simp <;> with_reducible rfl)
          simp only [Act.put, List.setIfInBounds_toArray, List.set_cons_zero, List.set_cons_succ]
          refine take_at (i := 3) (v := ?v62) rfl (by kernel_rfl) (by kernel_rfl) (by kernel_rfl) (fun _ _ _ h => h) (Or.inl ⟨by rfl, ?y62⟩) hHeld ?t62
          case y62 => (intro wx hSw; go_simp <;> with_reducible rfl)
          simp only [Act.put, List.setIfInBounds_toArray, List.set_cons_zero, List.set_cons_succ]
          refine take_at (i := 4) (v := ?v63) rfl (by kernel_rfl) (by kernel_rfl) (by kernel_rfl) (fun _ _ _ h => h) (Or.inl ⟨by rfl, ?y63⟩) hHeld ?t63
          case y63 => (intro wx hSw; go_simp <;> with_reducible rfl)
          simp only [Act.put, List.setIfInBounds_toArray, List.set_cons_zero, List.set_cons_succ]
          refine take_at (i := 5) (v := ?v64) rfl (by kernel_rfl) (by kernel_rfl) (by kernel_rfl) (fun _ _ _ h => h) (Or.inl ⟨by rfl, ?y64⟩) hHeld ?t64
          case y64 => (intro wx hSw; go_simp <;> with_reducible rfl)
          simp only [Act.put, List.setIfInBounds_toArray, List.set_cons_zero, List.set_cons_succ]
          refine take_at (i := 6) (v := ?v65) rfl (by kernel_rfl) (by kernel_rfl) (by kernel_rfl) (fun _ _ _ h => h) (Or.inl ⟨by rfl, ?y65⟩) hHeld ?t65
          case y65 => (intro wx hSw; go_simp <;> with_reducible rfl)
          simp only [Act.put, List.setIfInBounds_toArray, List.set_cons_zero, List.set_cons_succ]
          refine take_at (i := 7) (v := ?v66) rfl (by kernel_rfl) (by kernel_rfl) (by kernel_rfl) (fun _ _ _ h => h) (Or.inl ⟨by rfl, ?y66⟩) hHeld ?t66
          case y66 => (intro wx hSw; go_simp <;> with_reducible rfl)
          simp only [Act.put, List.setIfInBounds_toArray, List.set_cons_zero, List.set_cons_succ]
          refine take_at (i := 8) (v := ?v67) rfl (by kernel_rfl) (by kernel_rfl) (by kernel_rfl) (fun _ _ _ h => h) (Or.inl ⟨by rfl, ?y67⟩) hHeld ?t67
          case y67 => (intro wx hSw; have hc4 : wx.cell? ⟨w.heap.size, 4, none⟩ = some (.int .i64 m.2.2.2.2.1) := hSw.c 4 (of_decide_eq_true rfl); go_simp <;> with_reducible rfl)
          simp only [Act.put, List.setIfInBounds_toArray, List.set_cons_zero, List.set_cons_succ]
          refine take_at (i := 10) (v := ?v68) rfl (by kernel_rfl) (by kernel_rfl) (by kernel_rfl) (fun _ _ _ h => h) (Or.inl ⟨by rfl, ?y68⟩) hHeld ?t68
          case y68 => (intro wx hSw; go_simp <;> with_reducible rfl)
          simp only [Act.put, List.setIfInBounds_toArray, List.set_cons_zero, List.set_cons_succ]
          refine take_at (i := 11) (v := ?v69) rfl (by kernel_rfl) (by kernel_rfl) (by kernel_rfl) (fun _ _ _ h => h) (Or.inl ⟨by rfl, ?y69⟩) hHeld ?t69
          case y69 => (intro wx hSw; go_simp <;> with_reducible rfl)
          simp only [Act.put, List.setIfInBounds_toArray, List.set_cons_zero, List.set_cons_succ]
          refine take_at (i := 12) (v := ?v70) rfl (by kernel_rfl) (by kernel_rfl) (by kernel_rfl) (fun _ _ _ h => h) (Or.inl ⟨by rfl, ?y70⟩) hHeld ?t70
          case y70 => (intro wx hSw; go_simp <;> with_reducible rfl)
          simp only [Act.put, List.setIfInBounds_toArray, List.set_cons_zero, List.set_cons_succ]
          refine take_at (i := 13) (v := ?v71) rfl (by kernel_rfl) (by kernel_rfl) (by kernel_rfl) (fun _ _ _ h => h) (Or.inl ⟨by rfl, ?y71⟩) hHeld ?t71
          case y71 => (intro wx hSw; go_simp <;> with_reducible rfl)
          simp only [Act.put, List.setIfInBounds_toArray, List.set_cons_zero, List.set_cons_succ]
          refine take_at (i := 14) (v := ?v72) rfl (by kernel_rfl) (by kernel_rfl) (by kernel_rfl) (fun _ _ _ h => h) (Or.inl ⟨by rfl, ?y72⟩) hHeld ?t72
          case y72 => (intro wx hSw; have hc8 : wx.cell? ⟨w.heap.size, 8, none⟩ = some (.int .i64 m.2.2.2.2.2.2.2.2) := hSw.c 8 (of_decide_eq_true rfl); go_simp <;> with_reducible rfl)
          simp only [Act.put, List.setIfInBounds_toArray, List.set_cons_zero, List.set_cons_succ]
          refine take_at (i := 16) (v := ?v73) rfl (by kernel_rfl) (by kernel_rfl) (by kernel_rfl) (fun _ _ _ h => h) (Or.inl ⟨by rfl, ?y73⟩) hHeld ?t73
          case y73 => (intro wx hSw; go_simp <;> with_reducible rfl)
          simp only [Act.put, List.setIfInBounds_toArray, List.set_cons_zero, List.set_cons_succ]
          refine take_at (i := 17) (v := ?v74) rfl (by kernel_rfl) (by kernel_rfl) (by kernel_rfl) (fun _ _ _ h => h) (Or.inl ⟨by rfl, ?y74⟩) hHeld ?t74
          case y74 => (intro wx hSw; go_simp <;> with_reducible rfl)
          simp only [Act.put, List.setIfInBounds_toArray, List.set_cons_zero, List.set_cons_succ]
          refine take_at (i := 18) (v := ?v75) rfl (by kernel_rfl) (by kernel_rfl) (by kernel_rfl) (fun _ _ _ h => h) (Or.inl ⟨by rfl, ?y75⟩) hHeld ?t75
          case y75 => (intro wx hSw; go_simp <;> with_reducible rfl)
          simp only [Act.put, List.setIfInBounds_toArray, List.set_cons_zero, List.set_cons_succ]
          refine take_at (i := 19) (v := ?v76) rfl (by kernel_rfl) (by kernel_rfl) (by kernel_rfl) (fun _ _ _ h => h) (Or.inl ⟨by rfl, ?y76⟩) hHeld ?t76
          case y76 => (intro wx hSw; go_simp <;> with_reducible rfl)
          simp only [Act.put, List.setIfInBounds_toArray, List.set_cons_zero, List.set_cons_succ]
          refine take_at (i := 20) (v := ?v77) rfl (by kernel_rfl) (by kernel_rfl) (by kernel_rfl) (fun _ _ _ h => h) (Or.inl ⟨by rfl, ?y77⟩) hHeld ?t77
          case y77 => (intro wx hSw; have hc0 : wx.cell? ⟨w.heap.size, 0, none⟩ = some (.int .i64 m.1) := hSw.c 0 (of_decide_eq_true rfl); go_simp <;> with_reducible rfl)
          simp only [Act.put, List.setIfInBounds_toArray, List.set_cons_zero, List.set_cons_succ]
          refine call_at (i := 9) (by kernel_rfl) rfl (fun K hK => ?_)
          go_simp
          refine (rAdd_any b r14.2 1099511627776 m.2.2.2.2.1 _ ((f14.alloc _).alloc _).drew).mono ?_
          rintro e w15 ⟨rfl, f15, k15⟩
          generalize e15 : addS r14.2 1099511627776 m.2.2.2.2.1 = r15 at f15 ⊢
          have E15 : Hid _ := e15
          clear e15
          have K15 : Kept b w w15 := Kept.trans ((K14.al _).al _).drew k15
          have B0_15 : Arr w.heap.size [.int .i64 m.1, .int .i64 m.2.1, .int .i64 m.2.2.1, .int .i64 m.2.2.2.1, .int .i64 m.2.2.2.2.1, .int .i64 m.2.2.2.2.2.1, .int .i64 m.2.2.2.2.2.2.1, .int .i64 m.2.2.2.2.2.2.2.1, .int .i64 m.2.2.2.2.2.2.2.2] w15 := ((B0_14.alloc _).alloc _).drew.kept k15 (by omega)
          have B1_15 : Arr (w.heap.size + 1) [.int .i64 0, .int .i64 0, .int .i64 0, .int .i64 0] w15 := ((B1_14.alloc _).alloc _).drew.kept k15 (by omega)
          have B2_15 : Arr w14.heap.size [.int .i64 0, .int .i64 0, .int .i64 0, .int .i64 0] w15 := ((Arr_at _ _ [.int .i64 0, .int .i64 0, .int .i64 0, .int .i64 0] _ (by simp)).alloc _).drew.kept k15 (by omega)
          have B3_15 : Arr (w14.heap.size + 1) [.int .i64 r12.1, .int .i64 r13.1, .int .i64 r14.1] w15 := (Arr_at _ _ [.int .i64 r12.1, .int .i64 r13.1, .int .i64 r14.1] _ (by simp)).drew.kept k15 (by omega)
          have z15 := B3_15.lies
          clear hHeld
          refine hK.out _ _ B0_15 (fun hHeld => ?_)
          clear hK K K14 f14 B0_14 B1_14 k15
          refine call_at (i := 15) (by kernel_rfl) rfl (fun K hK => ?_)
          go_simp
          refine (rSub_any b r15.2 r15.1 m.2.2.2.2.2.2.2.2 _ f15).mono ?_
          rintro e w16 ⟨rfl, f16, k16⟩
          generalize e16 : subS r15.2 r15.1 m.2.2.2.2.2.2.2.2 = r16 at f16 ⊢
          have E16 : Hid _ := e16
          clear e16
          have K16 : Kept b w w16 := Kept.trans K15 k16
          have B0_16 : Arr w.heap.size [.int .i64 m.1, .int .i64 m.2.1, .int .i64 m.2.2.1, .int .i64 m.2.2.2.1, .int .i64 m.2.2.2.2.1, .int .i64 m.2.2.2.2.2.1, .int .i64 m.2.2.2.2.2.2.1, .int .i64 m.2.2.2.2.2.2.2.1, .int .i64 m.2.2.2.2.2.2.2.2] w16 := B0_15.kept k16 (by omega)
          have B1_16 : Arr (w.heap.size + 1) [.int .i64 0, .int .i64 0, .int .i64 0, .int .i64 0] w16 := B1_15.kept k16 (by omega)
          have B2_16 : Arr w14.heap.size [.int .i64 0, .int .i64 0, .int .i64 0, .int .i64 0] w16 := B2_15.kept k16 (by omega)
          have B3_16 : Arr (w14.heap.size + 1) [.int .i64 r12.1, .int .i64 r13.1, .int .i64 r14.1] w16 := B3_15.kept k16 (by omega)
          have z16 := B3_16.lies
          clear hHeld
          refine hK.out _ _ B0_16 (fun hHeld => ?_)
          clear hK K K15 f15 B0_15 B1_15 B2_15 B3_15 k16
          refine call_at (i := 21) (by kernel_rfl) rfl (fun K hK => ?_)
          go_simp
          refine (rSub_any b r16.2 r16.1 m.1 _ f16).mono ?_
          rintro e w17 ⟨rfl, f17, k17⟩
          generalize e17 : subS r16.2 r16.1 m.1 = r17 at f17 ⊢
          have E17 : Hid _ := e17
          clear e17
          have K17 : Kept b w w17 := Kept.trans K16 k17
          have B0_17 : Arr w.heap.size [.int .i64 m.1, .int .i64 m.2.1, .int .i64 m.2.2.1, .int .i64 m.2.2.2.1, .int .i64 m.2.2.2.2.1, .int .i64 m.2.2.2.2.2.1, .int .i64 m.2.2.2.2.2.2.1, .int .i64 m.2.2.2.2.2.2.2.1, .int .i64 m.2.2.2.2.2.2.2.2] w17 := B0_16.kept k17 (by omega)
          have B1_17 : Arr (w.heap.size + 1) [.int .i64 0, .int .i64 0, .int .i64 0, .int .i64 0] w17 := B1_16.kept k17 (by omega)
          have B2_17 : Arr w14.heap.size [.int .i64 0, .int .i64 0, .int .i64 0, .int .i64 0] w17 := B2_16.kept k17 (by omega)
          have B3_17 : Arr (w14.heap.size + 1) [.int .i64 r12.1, .int .i64 r13.1, .int .i64 r14.1] w17 := B3_16.kept k17 (by omega)
          have z17 := B3_17.lies
          clear hHeld
          refine hK.out _ _ B0_17 (fun hHeld => ?_)
          clear hK K K16 f16 B0_16 B1_16 B2_16 B3_16 k17
          refine take_at (i := 22) (v := ?v78) rfl (by kernel_rfl) (by kernel_rfl) (by kernel_rfl) (fun _ _ _ h => h) (Or.inl ⟨by rfl, ?y78⟩) hHeld ?t78
          case y78 => (intro wx hSw; go_simp <;> with_reducible rfl)
          simp only [Act.put, List.setIfInBounds_toArray, List.set_cons_zero, List.set_cons_succ]
          refine call_at (i := 23) (by kernel_rfl) rfl (fun K hK => ?_)
          have c29_B2_1 : w17.cell? ⟨w14.heap.size, 1, none⟩ = some (.int .i64 0) := B2_17.c 1 (of_decide_eq_true rfl)
          have g29_B2_1 := B2_17.f 1 (of_decide_eq_true rfl)
          go_simp
          clear hHeld
          refine hK.out _ _ (B0_17.new w14.heap.size 1 (by omega) (.int .i64 r17.1)) (fun hHeld => ?_)
          clear hK K c29_B2_1 g29_B2_1
          refine wpAnyH_done (by kernel_rfl) ?_ _
          clear hHeld
          go_wp2_with fail
          refine wp_region_held_drew (S := fun w' => Arr w.heap.size [.int .i64 m.1, .int .i64 m.2.1, .int .i64 m.2.2.1, .int .i64 m.2.2.2.1, .int .i64 m.2.2.2.2.1, .int .i64 m.2.2.2.2.2.1, .int .i64 m.2.2.2.2.2.2.1, .int .i64 m.2.2.2.2.2.2.2.1, .int .i64 m.2.2.2.2.2.2.2.2] w') (by kernel_rfl) (B0_17.new w14.heap.size 1 (by omega) (.int .i64 r17.1)).drew (fun hHeld => ?_)
          refine take_at (i := 0) (v := ?v79) rfl (by kernel_rfl) (by kernel_rfl) (by kernel_rfl) (fun _ _ _ h => h) (Or.inl ⟨by rfl, ?y79⟩) hHeld ?t79
          case y79 => (intro wx hSw; go_simp <;> with_reducible rfl)
          simp only [Act.put, List.setIfInBounds_toArray, List.set_cons_zero, List.set_cons_succ]
          refine take_at (i := 1) (v := ?v80) rfl (by kernel_rfl) (by kernel_rfl) (by kernel_rfl) (fun _ _ _ h => h) (Or.inl ⟨by rfl, ?y80⟩) hHeld ?t80
          case y80 => (intro wx hSw; go_simp <;> with_reducible rfl)
          simp only [Act.put, List.setIfInBounds_toArray, List.set_cons_zero, List.set_cons_succ]
          refine take_at (i := 2) (v := ?v81) rfl (by kernel_rfl) (by kernel_rfl) (by kernel_rfl) (fun _ _ _ h => h) (Or.inl ⟨by rfl, ?y81⟩) hHeld ?t81
          case y81 => (intro wx hSw; go_simp <;> with_reducible rfl)
          simp only [Act.put, List.setIfInBounds_toArray, List.set_cons_zero, List.set_cons_succ]
          refine take_at (i := 3) (v := ?v82) rfl (by kernel_rfl) (by kernel_rfl) (by kernel_rfl) (fun _ _ _ h => h) (Or.inl ⟨by rfl, ?y82⟩) hHeld ?t82
          case y82 => (intro wx hSw; go_simp <;> with_reducible rfl)
          simp only [Act.put, List.setIfInBounds_toArray, List.set_cons_zero, List.set_cons_succ]
          refine take_at (i := 4) (v := ?v83) rfl (by kernel_rfl) (by kernel_rfl) (by kernel_rfl) (fun _ _ _ h => h) (Or.inl ⟨by rfl, ?y83⟩) hHeld ?t83
          case y83 => (intro wx hSw; go_simp <;> with_reducible rfl)
          simp only [Act.put, List.setIfInBounds_toArray, List.set_cons_zero, List.set_cons_succ]
          refine take_at (i := 5) (v := ?v84) rfl (by kernel_rfl) (by kernel_rfl) (by kernel_rfl) (fun _ _ _ h => h) (Or.inl ⟨by rfl, ?y84⟩) hHeld ?t84
          case y84 => (intro wx hSw; go_simp <;> with_reducible rfl)
          simp only [Act.put, List.setIfInBounds_toArray, List.set_cons_zero, List.set_cons_succ]
          refine take_at (i := 6) (v := ?v85) rfl (by kernel_rfl) (by kernel_rfl) (by kernel_rfl) (fun _ _ _ h => h) (Or.inl ⟨by rfl, ?y85⟩) hHeld ?t85
          case y85 => (intro wx hSw; have hc5 : wx.cell? ⟨w.heap.size, 5, none⟩ = some (.int .i64 m.2.2.2.2.2.1) := hSw.c 5 (of_decide_eq_true rfl); go_simp <;> with_reducible rfl)
          simp only [Act.put, List.setIfInBounds_toArray, List.set_cons_zero, List.set_cons_succ]
          refine take_at (i := 7) (v := ?v86) rfl (by kernel_rfl) (by kernel_rfl) (by kernel_rfl) (fun _ _ _ h => h) (Or.inl ⟨by rfl, ?y86⟩) hHeld ?t86
          case y86 => (intro wx hSw; go_simp <;> with_reducible rfl)
          simp only [Act.put, List.setIfInBounds_toArray, List.set_cons_zero, List.set_cons_succ]
          refine take_at (i := 8) (v := ?v87) rfl (by kernel_rfl) (by kernel_rfl) (by kernel_rfl) (fun _ _ _ h => h) (Or.inl ⟨by rfl, ?y87⟩) hHeld ?t87
          case y87 => (intro wx hSw; go_simp <;> with_reducible rfl)
          simp only [Act.put, List.setIfInBounds_toArray, List.set_cons_zero, List.set_cons_succ]
          refine take_at (i := 9) (v := ?v88) rfl (by kernel_rfl) (by kernel_rfl) (by kernel_rfl) (fun _ _ _ h => h) (Or.inl ⟨by rfl, ?y88⟩) hHeld ?t88
          case y88 => (intro wx hSw; go_simp <;> with_reducible rfl)
          simp only [Act.put, List.setIfInBounds_toArray, List.set_cons_zero, List.set_cons_succ]
          refine take_at (i := 10) (v := ?v89) rfl (by kernel_rfl) (by kernel_rfl) (by kernel_rfl) (fun _ _ _ h => h) (Or.inl ⟨by rfl, ?y89⟩) hHeld ?t89
          case y89 => (intro wx hSw; go_simp <;> with_reducible rfl)
          simp only [Act.put, List.setIfInBounds_toArray, List.set_cons_zero, List.set_cons_succ]
          refine take_at (i := 11) (v := ?v90) rfl (by kernel_rfl) (by kernel_rfl) (by kernel_rfl) (fun _ _ _ h => h) (Or.inl ⟨by rfl, ?y90⟩) hHeld ?t90
          case y90 => (intro wx hSw; have hc7 : wx.cell? ⟨w.heap.size, 7, none⟩ = some (.int .i64 m.2.2.2.2.2.2.2.1) := hSw.c 7 (of_decide_eq_true rfl); go_simp <;> with_reducible rfl)
          simp only [Act.put, List.setIfInBounds_toArray, List.set_cons_zero, List.set_cons_succ]
          refine call_at (i := 12) (by kernel_rfl) rfl (fun K hK => ?_)
          go_simp
          refine (rAdd_any b r17.2 m.2.2.2.2.2.1 m.2.2.2.2.2.2.2.1 _ (f17.new w14.heap.size 1 (by omega) (.int .i64 r17.1)).drew).mono ?_
          rintro e w18 ⟨rfl, f18, k18⟩
          generalize e18 : addS r17.2 m.2.2.2.2.2.1 m.2.2.2.2.2.2.2.1 = r18 at f18 ⊢
          have E18 : Hid _ := e18
          clear e18
          have K18 : Kept b w w18 := Kept.trans (K17.new _ _ (by omega) _).drew k18
          have B0_18 : Arr w.heap.size [.int .i64 m.1, .int .i64 m.2.1, .int .i64 m.2.2.1, .int .i64 m.2.2.2.1, .int .i64 m.2.2.2.2.1, .int .i64 m.2.2.2.2.2.1, .int .i64 m.2.2.2.2.2.2.1, .int .i64 m.2.2.2.2.2.2.2.1, .int .i64 m.2.2.2.2.2.2.2.2] w18 := (B0_17.new w14.heap.size 1 (by omega) (.int .i64 r17.1)).drew.kept k18 (by omega)
          have B1_18 : Arr (w.heap.size + 1) [.int .i64 0, .int .i64 0, .int .i64 0, .int .i64 0] w18 := (B1_17.new w14.heap.size 1 (by omega) (.int .i64 r17.1)).drew.kept k18 (by omega)
          have B2_18 : Arr w14.heap.size [.int .i64 0, .int .i64 r17.1, .int .i64 0, .int .i64 0] w18 := (B2_17.put 1 (of_decide_eq_true rfl) (.int .i64 r17.1) [.int .i64 0, .int .i64 r17.1, .int .i64 0, .int .i64 0] rfl).drew.kept k18 (by omega)
          have B3_18 : Arr (w14.heap.size + 1) [.int .i64 r12.1, .int .i64 r13.1, .int .i64 r14.1] w18 := (B3_17.new w14.heap.size 1 (by omega) (.int .i64 r17.1)).drew.kept k18 (by omega)
          have z18 := B3_18.lies
          clear hHeld
          refine hK.out _ _ B0_18 (fun hHeld => ?_)
          clear hK K K17 f17 B0_17 B1_17 B2_17 B3_17 k18
          refine take_at (i := 13) (v := ?v91) rfl (by kernel_rfl) (by kernel_rfl) (by kernel_rfl) (fun _ _ _ h => h) (Or.inl ⟨by rfl, ?y91⟩) hHeld ?t91
          case y91 => (intro wx hSw; go_simp <;> with_reducible rfl)
          simp only [Act.put, List.setIfInBounds_toArray, List.set_cons_zero, List.set_cons_succ]
          refine call_at (i := 14) (by kernel_rfl) rfl (fun K hK => ?_)
          have c31_B2_2 : w18.cell? ⟨w14.heap.size, 2, none⟩ = some (.int .i64 0) := B2_18.c 2 (of_decide_eq_true rfl)
          have g31_B2_2 := B2_18.f 2 (of_decide_eq_true rfl)
          go_simp
          clear hHeld
          refine hK.out _ _ (B0_18.new w14.heap.size 2 (by omega) (.int .i64 r18.1)) (fun hHeld => ?_)
          clear hK K c31_B2_2 g31_B2_2
          refine wpAnyH_done (by kernel_rfl) ?_ _
          clear hHeld
          go_wp2_with fail
          refine wp_region_held_drew (S := fun w' => Arr w.heap.size [.int .i64 m.1, .int .i64 m.2.1, .int .i64 m.2.2.1, .int .i64 m.2.2.2.1, .int .i64 m.2.2.2.2.1, .int .i64 m.2.2.2.2.2.1, .int .i64 m.2.2.2.2.2.2.1, .int .i64 m.2.2.2.2.2.2.2.1, .int .i64 m.2.2.2.2.2.2.2.2] w') (by kernel_rfl) (B0_18.new w14.heap.size 2 (by omega) (.int .i64 r18.1)).drew (fun hHeld => ?_)
          refine take_at (i := 0) (v := ?v92) rfl (by kernel_rfl) (by kernel_rfl) (by kernel_rfl) (fun _ _ _ h => h) (Or.inl ⟨by rfl, ?y92⟩) hHeld ?t92
          case y92 => (intro wx hSw; go_simp <;> with_reducible rfl)
          simp only [Act.put, List.setIfInBounds_toArray, List.set_cons_zero, List.set_cons_succ]
          refine take_at (i := 1) (v := ?v93) rfl (by kernel_rfl) (by kernel_rfl) (by kernel_rfl) (fun _ _ _ h => h) (Or.inl ⟨by rfl, ?y93⟩) hHeld ?t93
          case y93 => (intro wx hSw; go_simp <;> with_reducible rfl)
          simp only [Act.put, List.setIfInBounds_toArray, List.set_cons_zero, List.set_cons_succ]
          refine take_at (i := 2) (v := ?v94) rfl (by kernel_rfl) (by kernel_rfl) (by kernel_rfl) (fun _ _ _ h => h) (Or.inl ⟨by rfl, ?y94⟩) hHeld ?t94
          case y94 => (intro wx hSw; go_simp <;> with_reducible rfl)
          simp only [Act.put, List.setIfInBounds_toArray, List.set_cons_zero, List.set_cons_succ]
          refine take_at (i := 3) (v := ?v95) rfl (by kernel_rfl) (by kernel_rfl) (by kernel_rfl) (fun _ _ _ h => h) (Or.inl ⟨by rfl, ?y95⟩) hHeld ?t95
          case y95 => (intro wx hSw; go_simp <;> with_reducible rfl)
          simp only [Act.put, List.setIfInBounds_toArray, List.set_cons_zero, List.set_cons_succ]
          refine take_at (i := 4) (v := ?v96) rfl (by kernel_rfl) (by kernel_rfl) (by kernel_rfl) (fun _ _ _ h => h) (Or.inl ⟨by rfl, ?y96⟩) hHeld ?t96
          case y96 => (intro wx hSw; go_simp <;> with_reducible rfl)
          simp only [Act.put, List.setIfInBounds_toArray, List.set_cons_zero, List.set_cons_succ]
          refine take_at (i := 5) (v := ?v97) rfl (by kernel_rfl) (by kernel_rfl) (by kernel_rfl) (fun _ _ _ h => h) (Or.inl ⟨by rfl, ?y97⟩) hHeld ?t97
          case y97 => (intro wx hSw; go_simp <;> with_reducible rfl)
          simp only [Act.put, List.setIfInBounds_toArray, List.set_cons_zero, List.set_cons_succ]
          refine take_at (i := 6) (v := ?v98) rfl (by kernel_rfl) (by kernel_rfl) (by kernel_rfl) (fun _ _ _ h => h) (Or.inl ⟨by rfl, ?y98⟩) hHeld ?t98
          case y98 => (intro wx hSw; have hc3 : wx.cell? ⟨w.heap.size, 3, none⟩ = some (.int .i64 m.2.2.2.1) := hSw.c 3 (of_decide_eq_true rfl); go_simp <;> with_reducible rfl)
          simp only [Act.put, List.setIfInBounds_toArray, List.set_cons_zero, List.set_cons_succ]
          refine take_at (i := 7) (v := ?v99) rfl (by kernel_rfl) (by kernel_rfl) (by kernel_rfl) (fun _ _ _ h => h) (Or.inl ⟨by rfl, ?y99⟩) hHeld ?t99
          case y99 => (intro wx hSw; go_simp <;> with_reducible rfl)
          simp only [Act.put, List.setIfInBounds_toArray, List.set_cons_zero, List.set_cons_succ]
          refine take_at (i := 8) (v := ?v100) rfl (by kernel_rfl) (by kernel_rfl) (by kernel_rfl) (fun _ _ _ h => h) (Or.inl ⟨by rfl, ?y100⟩) hHeld ?t100
          case y100 => (intro wx hSw; go_simp <;> with_reducible rfl)
          simp only [Act.put, List.setIfInBounds_toArray, List.set_cons_zero, List.set_cons_succ]
          refine take_at (i := 9) (v := ?v101) rfl (by kernel_rfl) (by kernel_rfl) (by kernel_rfl) (fun _ _ _ h => h) (Or.inl ⟨by rfl, ?y101⟩) hHeld ?t101
          case y101 => (intro wx hSw; go_simp <;> with_reducible rfl)
          simp only [Act.put, List.setIfInBounds_toArray, List.set_cons_zero, List.set_cons_succ]
          refine take_at (i := 10) (v := ?v102) rfl (by kernel_rfl) (by kernel_rfl) (by kernel_rfl) (fun _ _ _ h => h) (Or.inl ⟨by rfl, ?y102⟩) hHeld ?t102
          case y102 => (intro wx hSw; go_simp <;> with_reducible rfl)
          simp only [Act.put, List.setIfInBounds_toArray, List.set_cons_zero, List.set_cons_succ]
          refine take_at (i := 11) (v := ?v103) rfl (by kernel_rfl) (by kernel_rfl) (by kernel_rfl) (fun _ _ _ h => h) (Or.inl ⟨by rfl, ?y103⟩) hHeld ?t103
          case y103 => (intro wx hSw; have hc1 : wx.cell? ⟨w.heap.size, 1, none⟩ = some (.int .i64 m.2.1) := hSw.c 1 (of_decide_eq_true rfl); go_simp <;> with_reducible rfl)
          simp only [Act.put, List.setIfInBounds_toArray, List.set_cons_zero, List.set_cons_succ]
          refine call_at (i := 12) (by kernel_rfl) rfl (fun K hK => ?_)
          go_simp
          refine (rAdd_any b r18.2 m.2.2.2.1 m.2.1 _ (f18.new w14.heap.size 2 (by omega) (.int .i64 r18.1)).drew).mono ?_
          rintro e w19 ⟨rfl, f19, k19⟩
          generalize e19 : addS r18.2 m.2.2.2.1 m.2.1 = r19 at f19 ⊢
          have E19 : Hid _ := e19
          clear e19
          have K19 : Kept b w w19 := Kept.trans (K18.new _ _ (by omega) _).drew k19
          have B0_19 : Arr w.heap.size [.int .i64 m.1, .int .i64 m.2.1, .int .i64 m.2.2.1, .int .i64 m.2.2.2.1, .int .i64 m.2.2.2.2.1, .int .i64 m.2.2.2.2.2.1, .int .i64 m.2.2.2.2.2.2.1, .int .i64 m.2.2.2.2.2.2.2.1, .int .i64 m.2.2.2.2.2.2.2.2] w19 := (B0_18.new w14.heap.size 2 (by omega) (.int .i64 r18.1)).drew.kept k19 (by omega)
          have B1_19 : Arr (w.heap.size + 1) [.int .i64 0, .int .i64 0, .int .i64 0, .int .i64 0] w19 := (B1_18.new w14.heap.size 2 (by omega) (.int .i64 r18.1)).drew.kept k19 (by omega)
          have B2_19 : Arr w14.heap.size [.int .i64 0, .int .i64 r17.1, .int .i64 r18.1, .int .i64 0] w19 := (B2_18.put 2 (of_decide_eq_true rfl) (.int .i64 r18.1) [.int .i64 0, .int .i64 r17.1, .int .i64 r18.1, .int .i64 0] rfl).drew.kept k19 (by omega)
          have B3_19 : Arr (w14.heap.size + 1) [.int .i64 r12.1, .int .i64 r13.1, .int .i64 r14.1] w19 := (B3_18.new w14.heap.size 2 (by omega) (.int .i64 r18.1)).drew.kept k19 (by omega)
          have z19 := B3_19.lies
          clear hHeld
          refine hK.out _ _ B0_19 (fun hHeld => ?_)
          clear hK K K18 f18 B0_18 B1_18 B2_18 B3_18 k19
          refine take_at (i := 13) (v := ?v104) rfl (by kernel_rfl) (by kernel_rfl) (by kernel_rfl) (fun _ _ _ h => h) (Or.inl ⟨by rfl, ?y104⟩) hHeld ?t104
          case y104 => (intro wx hSw; go_simp <;> with_reducible rfl)
          simp only [Act.put, List.setIfInBounds_toArray, List.set_cons_zero, List.set_cons_succ]
          refine call_at (i := 14) (by kernel_rfl) rfl (fun K hK => ?_)
          have c33_B2_0 : w19.cell? ⟨w14.heap.size, 0, none⟩ = some (.int .i64 0) := B2_19.c 0 (of_decide_eq_true rfl)
          have g33_B2_0 := B2_19.f 0 (of_decide_eq_true rfl)
          go_simp
          clear hHeld
          refine hK.out _ _ (B0_19.new w14.heap.size 0 (by omega) (.int .i64 r19.1)) (fun hHeld => ?_)
          clear hK K c33_B2_0 g33_B2_0
          refine wpAnyH_done (by kernel_rfl) ?_ _
          clear hHeld
          have c34_B2_0 : w19.cell? ⟨w14.heap.size, 0, none⟩ = some (.int .i64 0) := B2_19.c 0 (of_decide_eq_true rfl)
          have c34_B2_1 : w19.cell? ⟨w14.heap.size, 1, none⟩ = some (.int .i64 r17.1) := B2_19.c 1 (of_decide_eq_true rfl)
          have c34_B2_2 : w19.cell? ⟨w14.heap.size, 2, none⟩ = some (.int .i64 r18.1) := B2_19.c 2 (of_decide_eq_true rfl)
          have c34_B2_3 : w19.cell? ⟨w14.heap.size, 3, none⟩ = some (.int .i64 0) := B2_19.c 3 (of_decide_eq_true rfl)
          have c34_B3_1 : w19.cell? ⟨w14.heap.size + 1, 1, none⟩ = some (.int .i64 r13.1) := B3_19.c 1 (of_decide_eq_true rfl)
          have g34_B2_3 := B2_19.f 3 (of_decide_eq_true rfl)
          go_wp2_with fail
          refine (xUnit_any b r19.2 (r19.1, r17.1, r18.1, r13.1) _ ((f19.new w14.heap.size 0 (by omega) (.int .i64 r19.1)).new w14.heap.size 3 (by omega) (.int .i64 r13.1))).mono ?_
          rintro e w20 ⟨rfl, f20, k20⟩
          generalize e20 : xUnitS r19.2 (r19.1, r17.1, r18.1, r13.1) = r20 at f20 ⊢
          have E20 : Hid _ := e20
          clear e20
          have K20 : Kept b w w20 := Kept.trans ((K19.new _ _ (by omega) _).new _ _ (by omega) _) k20
          have B0_20 : Arr w.heap.size [.int .i64 m.1, .int .i64 m.2.1, .int .i64 m.2.2.1, .int .i64 m.2.2.2.1, .int .i64 m.2.2.2.2.1, .int .i64 m.2.2.2.2.2.1, .int .i64 m.2.2.2.2.2.2.1, .int .i64 m.2.2.2.2.2.2.2.1, .int .i64 m.2.2.2.2.2.2.2.2] w20 := ((B0_19.new w14.heap.size 0 (by omega) (.int .i64 r19.1)).new w14.heap.size 3 (by omega) (.int .i64 r13.1)).kept k20 (by omega)
          have B1_20 : Arr (w.heap.size + 1) [.int .i64 0, .int .i64 0, .int .i64 0, .int .i64 0] w20 := ((B1_19.new w14.heap.size 0 (by omega) (.int .i64 r19.1)).new w14.heap.size 3 (by omega) (.int .i64 r13.1)).kept k20 (by omega)
          have B2_20 : Arr w14.heap.size [.int .i64 r19.1, .int .i64 r17.1, .int .i64 r18.1, .int .i64 r13.1] w20 := ((B2_19.put 0 (of_decide_eq_true rfl) (.int .i64 r19.1) [.int .i64 r19.1, .int .i64 r17.1, .int .i64 r18.1, .int .i64 0] rfl).put 3 (of_decide_eq_true rfl) (.int .i64 r13.1) [.int .i64 r19.1, .int .i64 r17.1, .int .i64 r18.1, .int .i64 r13.1] rfl).kept k20 (by omega)
          have B3_20 : Arr (w14.heap.size + 1) [.int .i64 r12.1, .int .i64 r13.1, .int .i64 r14.1] w20 := ((B3_19.new w14.heap.size 0 (by omega) (.int .i64 r19.1)).new w14.heap.size 3 (by omega) (.int .i64 r13.1)).kept k20 (by omega)
          have z20 := B3_20.lies
          clear c34_B2_0 c34_B2_1 c34_B2_2 c34_B2_3 c34_B3_1 g34_B2_3 K19 f19 B0_19 B1_19 B2_19 B3_19 k20
          have c35_B1_0 : w20.cell? ⟨w.heap.size + 1, 0, none⟩ = some (.int .i64 0) := B1_20.c 0 (of_decide_eq_true rfl)
          have c35_B1_1 : w20.cell? ⟨w.heap.size + 1, 1, none⟩ = some (.int .i64 0) := B1_20.c 1 (of_decide_eq_true rfl)
          have c35_B1_2 : w20.cell? ⟨w.heap.size + 1, 2, none⟩ = some (.int .i64 0) := B1_20.c 2 (of_decide_eq_true rfl)
          have c35_B1_3 : w20.cell? ⟨w.heap.size + 1, 3, none⟩ = some (.int .i64 0) := B1_20.c 3 (of_decide_eq_true rfl)
          have g35_B1_0 := B1_20.f 0 (of_decide_eq_true rfl)
          have g35_B1_1 := B1_20.f 1 (of_decide_eq_true rfl)
          have g35_B1_2 := B1_20.f 2 (of_decide_eq_true rfl)
          have g35_B1_3 := B1_20.f 3 (of_decide_eq_true rfl)
          go_wp2_with (with_reducible refine post_stop ?_)
          refine Stop.mk ?_
          clear c35_B1_0 c35_B1_1 c35_B1_2 c35_B1_3 g35_B1_0 g35_B1_1 g35_B1_2 g35_B1_3
          refine bodyPost_ret (v := .agg #[.int .i64 r20.1.1, .int .i64 r20.1.2.1, .int .i64 r20.1.2.2.1, .int .i64 r20.1.2.2.2]) (results_arr Try.results29 ((((B1_20.put 0 (of_decide_eq_true rfl) (.int .i64 r20.1.1) [.int .i64 r20.1.1, .int .i64 0, .int .i64 0, .int .i64 0] rfl).put 1 (of_decide_eq_true rfl) (.int .i64 r20.1.2.1) [.int .i64 r20.1.1, .int .i64 r20.1.2.1, .int .i64 0, .int .i64 0] rfl).put 2 (of_decide_eq_true rfl) (.int .i64 r20.1.2.2.1) [.int .i64 r20.1.1, .int .i64 r20.1.2.1, .int .i64 r20.1.2.2.1, .int .i64 0] rfl).put 3 (of_decide_eq_true rfl) (.int .i64 r20.1.2.2.2) [.int .i64 r20.1.1, .int .i64 r20.1.2.1, .int .i64 r20.1.2.2.1, .int .i64 r20.1.2.2.2] rfl) rfl (by kernel_rfl) (by kernel_rfl)) rfl ?_
          have hs : xFromMatrixS bad m = (r20.1, r20.2) := by unfold xFromMatrixS; simp only [E1.out, E2.out, E3.out, E4.out, E5.out, E6.out, E7.out, E8.out, E9.out, E10.out, E11.out, E12.out, E13.out, E14.out, E15.out, E16.out, E17.out, E18.out, E19.out, E20.out]; rw [if_neg (by rw [Hhc1.out]; decide)]; rw [if_pos (by have := Hhc2.out; omega)]; rw [if_pos (by have := Hhc3.out; omega)]; rw [if_neg (by have := Hhc4.out; omega)]
          rw [hs]
          exact ⟨rfl, ((((f20.new (w.heap.size + 1) 0 (by omega) (.int .i64 r20.1.1)).new (w.heap.size + 1) 1 (by omega) (.int .i64 r20.1.2.1)).new (w.heap.size + 1) 2 (by omega) (.int .i64 r20.1.2.2.1)).new (w.heap.size + 1) 3 (by omega) (.int .i64 r20.1.2.2.2)), ((((K20.new _ _ (by omega) _).new _ _ (by omega) _).new _ _ (by omega) _).new _ _ (by omega) _)⟩
      · have Hhc3 : Hid (¬ m.2.2.2.2.1 > m.1) := hc3
        have c23_B0_4 : w11.cell? ⟨w.heap.size, 4, none⟩ = some (.int .i64 m.2.2.2.2.1) := B0_11.c 4 (of_decide_eq_true rfl)
        go_wp2_with fail
        clear c23_B0_4
        rw [rounds_succ]
        by_cases hc4 : m.2.2.2.2.2.2.2.2 > m.1
        · have Hhc4 : Hid (m.2.2.2.2.2.2.2.2 > m.1) := hc4
          have c24_B0_8 : w11.cell? ⟨w.heap.size, 8, none⟩ = some (.int .i64 m.2.2.2.2.2.2.2.2) := B0_11.c 8 (of_decide_eq_true rfl)
          go_wp2_with fail
          clear c24_B0_8
          rw [rounds_succ]
          have c25_B0_5 : w11.cell? ⟨w.heap.size, 5, none⟩ = some (.int .i64 m.2.2.2.2.2.1) := B0_11.c 5 (of_decide_eq_true rfl)
          have c25_B0_7 : w11.cell? ⟨w.heap.size, 7, none⟩ = some (.int .i64 m.2.2.2.2.2.2.2.1) := B0_11.c 7 (of_decide_eq_true rfl)
          go_wp2_with fail
          refine (rSub_any b r11.2 m.2.2.2.2.2.1 m.2.2.2.2.2.2.2.1 _ f11).mono ?_
          rintro e w12 ⟨rfl, f12, k12⟩
          generalize e12 : subS r11.2 m.2.2.2.2.2.1 m.2.2.2.2.2.2.2.1 = r12 at f12 ⊢
          have E12 : Hid _ := e12
          clear e12
          have K12 : Kept b w w12 := Kept.trans K11 k12
          have B0_12 : Arr w.heap.size [.int .i64 m.1, .int .i64 m.2.1, .int .i64 m.2.2.1, .int .i64 m.2.2.2.1, .int .i64 m.2.2.2.2.1, .int .i64 m.2.2.2.2.2.1, .int .i64 m.2.2.2.2.2.2.1, .int .i64 m.2.2.2.2.2.2.2.1, .int .i64 m.2.2.2.2.2.2.2.2] w12 := B0_11.kept k12 (by omega)
          have B1_12 : Arr (w.heap.size + 1) [.int .i64 0, .int .i64 0, .int .i64 0, .int .i64 0] w12 := B1_11.kept k12 (by omega)
          have z12 := B1_12.lies
          clear c25_B0_5 c25_B0_7 K11 f11 B0_11 B1_11 k12
          have c26_B0_2 : w12.cell? ⟨w.heap.size, 2, none⟩ = some (.int .i64 m.2.2.1) := B0_12.c 2 (of_decide_eq_true rfl)
          have c26_B0_6 : w12.cell? ⟨w.heap.size, 6, none⟩ = some (.int .i64 m.2.2.2.2.2.2.1) := B0_12.c 6 (of_decide_eq_true rfl)
          go_wp2_with fail
          refine (rSub_any b r12.2 m.2.2.2.2.2.2.1 m.2.2.1 _ f12).mono ?_
          rintro e w13 ⟨rfl, f13, k13⟩
          generalize e13 : subS r12.2 m.2.2.2.2.2.2.1 m.2.2.1 = r13 at f13 ⊢
          have E13 : Hid _ := e13
          clear e13
          have K13 : Kept b w w13 := Kept.trans K12 k13
          have B0_13 : Arr w.heap.size [.int .i64 m.1, .int .i64 m.2.1, .int .i64 m.2.2.1, .int .i64 m.2.2.2.1, .int .i64 m.2.2.2.2.1, .int .i64 m.2.2.2.2.2.1, .int .i64 m.2.2.2.2.2.2.1, .int .i64 m.2.2.2.2.2.2.2.1, .int .i64 m.2.2.2.2.2.2.2.2] w13 := B0_12.kept k13 (by omega)
          have B1_13 : Arr (w.heap.size + 1) [.int .i64 0, .int .i64 0, .int .i64 0, .int .i64 0] w13 := B1_12.kept k13 (by omega)
          have z13 := B1_13.lies
          clear c26_B0_2 c26_B0_6 K12 f12 B0_12 B1_12 k13
          have c27_B0_1 : w13.cell? ⟨w.heap.size, 1, none⟩ = some (.int .i64 m.2.1) := B0_13.c 1 (of_decide_eq_true rfl)
          have c27_B0_3 : w13.cell? ⟨w.heap.size, 3, none⟩ = some (.int .i64 m.2.2.2.1) := B0_13.c 3 (of_decide_eq_true rfl)
          go_wp2_with fail
          refine (rSub_any b r13.2 m.2.1 m.2.2.2.1 _ f13).mono ?_
          rintro e w14 ⟨rfl, f14, k14⟩
          generalize e14 : subS r13.2 m.2.1 m.2.2.2.1 = r14 at f14 ⊢
          have E14 : Hid _ := e14
          clear e14
          have K14 : Kept b w w14 := Kept.trans K13 k14
          have B0_14 : Arr w.heap.size [.int .i64 m.1, .int .i64 m.2.1, .int .i64 m.2.2.1, .int .i64 m.2.2.2.1, .int .i64 m.2.2.2.2.1, .int .i64 m.2.2.2.2.2.1, .int .i64 m.2.2.2.2.2.2.1, .int .i64 m.2.2.2.2.2.2.2.1, .int .i64 m.2.2.2.2.2.2.2.2] w14 := B0_13.kept k14 (by omega)
          have B1_14 : Arr (w.heap.size + 1) [.int .i64 0, .int .i64 0, .int .i64 0, .int .i64 0] w14 := B1_13.kept k14 (by omega)
          have z14 := B1_14.lies
          clear c27_B0_1 c27_B0_3 K13 f13 B0_13 B1_13 k14
          go_wp2_with fail
          refine wp_region_held_drew (S := fun w' => Arr w.heap.size [.int .i64 m.1, .int .i64 m.2.1, .int .i64 m.2.2.1, .int .i64 m.2.2.2.1, .int .i64 m.2.2.2.2.1, .int .i64 m.2.2.2.2.2.1, .int .i64 m.2.2.2.2.2.2.1, .int .i64 m.2.2.2.2.2.2.2.1, .int .i64 m.2.2.2.2.2.2.2.2] w') (by kernel_rfl) ((B0_14.alloc _).alloc _).drew (fun hHeld => ?_)
          refine take_at (i := 0) (v := ?v105) rfl (by kernel_rfl) (by kernel_rfl) (by kernel_rfl) (fun _ _ _ h => h) (Or.inl ⟨by rfl, ?y105⟩) hHeld ?t105
          case y105 => (intro wx hSw; go_simp <;> with_reducible rfl)
          simp only [Act.put, List.setIfInBounds_toArray, List.set_cons_zero, List.set_cons_succ]
          refine take_at (i := 1) (v := ?v106) rfl (by kernel_rfl) (by kernel_rfl) (by kernel_rfl) (fun _ _ _ h => h) (Or.inl ⟨by rfl, ?y106⟩) hHeld ?t106
          case y106 => (intro wx hSw; go_simp <;> with_reducible rfl)
          simp only [Act.put, List.setIfInBounds_toArray, List.set_cons_zero, List.set_cons_succ]
          refine take_at (i := 2) (v := ?v107) rfl (by kernel_rfl) (by kernel_rfl) (by kernel_rfl) (fun _ _ _ h => h) (Or.inl ⟨by rfl, ?y107⟩) hHeld ?t107
          case y107 => (intro wx hSw; go_simp <;> with_reducible rfl)
          simp only [Act.put, List.setIfInBounds_toArray, List.set_cons_zero, List.set_cons_succ]
          refine take_at (i := 3) (v := ?v108) rfl (by kernel_rfl) (by kernel_rfl) (by kernel_rfl) (fun _ _ _ h => h) (Or.inl ⟨by rfl, ?y108⟩) hHeld ?t108
          case y108 => (intro wx hSw; go_simp <;> with_reducible rfl)
          simp only [Act.put, List.setIfInBounds_toArray, List.set_cons_zero, List.set_cons_succ]
          refine take_at (i := 4) (v := ?v109) rfl (by kernel_rfl) (by kernel_rfl) (by kernel_rfl) (fun _ _ _ h => h) (Or.inl ⟨by rfl, ?y109⟩) hHeld ?t109
          case y109 => (intro wx hSw; go_simp <;> with_reducible rfl)
          simp only [Act.put, List.setIfInBounds_toArray, List.set_cons_zero, List.set_cons_succ]
          refine take_at (i := 5) (v := ?v110) rfl (by kernel_rfl) (by kernel_rfl) (by kernel_rfl) (fun _ _ _ h => h) (Or.inl ⟨by rfl, ?y110⟩) hHeld ?t110
          case y110 => (intro wx hSw; go_simp <;> with_reducible rfl)
          simp only [Act.put, List.setIfInBounds_toArray, List.set_cons_zero, List.set_cons_succ]
          refine take_at (i := 6) (v := ?v111) rfl (by kernel_rfl) (by kernel_rfl) (by kernel_rfl) (fun _ _ _ h => h) (Or.inl ⟨by rfl, ?y111⟩) hHeld ?t111
          case y111 => (intro wx hSw; go_simp <;> with_reducible rfl)
          simp only [Act.put, List.setIfInBounds_toArray, List.set_cons_zero, List.set_cons_succ]
          refine take_at (i := 7) (v := ?v112) rfl (by kernel_rfl) (by kernel_rfl) (by kernel_rfl) (fun _ _ _ h => h) (Or.inl ⟨by rfl, ?y112⟩) hHeld ?t112
          case y112 => (intro wx hSw; go_simp <;> with_reducible rfl)
          simp only [Act.put, List.setIfInBounds_toArray, List.set_cons_zero, List.set_cons_succ]
          refine take_at (i := 8) (v := ?v113) rfl (by kernel_rfl) (by kernel_rfl) (by kernel_rfl) (fun _ _ _ h => h) (Or.inl ⟨by rfl, ?y113⟩) hHeld ?t113
          case y113 => (intro wx hSw; have hc8 : wx.cell? ⟨w.heap.size, 8, none⟩ = some (.int .i64 m.2.2.2.2.2.2.2.2) := hSw.c 8 (of_decide_eq_true rfl); go_simp <;> with_reducible rfl)
          simp only [Act.put, List.setIfInBounds_toArray, List.set_cons_zero, List.set_cons_succ]
          refine take_at (i := 10) (v := ?v114) rfl (by kernel_rfl) (by kernel_rfl) (by kernel_rfl) (fun _ _ _ h => h) (Or.inl ⟨by rfl, ?y114⟩) hHeld ?t114
          case y114 => (intro wx hSw; go_simp <;> with_reducible rfl)
          simp only [Act.put, List.setIfInBounds_toArray, List.set_cons_zero, List.set_cons_succ]
          refine take_at (i := 11) (v := ?v115) rfl (by kernel_rfl) (by kernel_rfl) (by kernel_rfl) (fun _ _ _ h => h) (Or.inl ⟨by rfl, ?y115⟩) hHeld ?t115
          case y115 => (intro wx hSw; go_simp <;> with_reducible rfl)
          simp only [Act.put, List.setIfInBounds_toArray, List.set_cons_zero, List.set_cons_succ]
          refine take_at (i := 12) (v := ?v116) rfl (by kernel_rfl) (by kernel_rfl) (by kernel_rfl) (fun _ _ _ h => h) (Or.inl ⟨by rfl, ?y116⟩) hHeld ?t116
          case y116 => (intro wx hSw; go_simp <;> with_reducible rfl)
          simp only [Act.put, List.setIfInBounds_toArray, List.set_cons_zero, List.set_cons_succ]
          refine take_at (i := 13) (v := ?v117) rfl (by kernel_rfl) (by kernel_rfl) (by kernel_rfl) (fun _ _ _ h => h) (Or.inl ⟨by rfl, ?y117⟩) hHeld ?t117
          case y117 => (intro wx hSw; go_simp <;> with_reducible rfl)
          simp only [Act.put, List.setIfInBounds_toArray, List.set_cons_zero, List.set_cons_succ]
          refine take_at (i := 14) (v := ?v118) rfl (by kernel_rfl) (by kernel_rfl) (by kernel_rfl) (fun _ _ _ h => h) (Or.inl ⟨by rfl, ?y118⟩) hHeld ?t118
          case y118 => (intro wx hSw; have hc0 : wx.cell? ⟨w.heap.size, 0, none⟩ = some (.int .i64 m.1) := hSw.c 0 (of_decide_eq_true rfl); go_simp <;> with_reducible rfl)
          simp only [Act.put, List.setIfInBounds_toArray, List.set_cons_zero, List.set_cons_succ]
          refine take_at (i := 16) (v := ?v119) rfl (by kernel_rfl) (by kernel_rfl) (by kernel_rfl) (fun _ _ _ h => h) (Or.inl ⟨by rfl, ?y119⟩) hHeld ?t119
          case y119 => (intro wx hSw; go_simp <;> with_reducible rfl)
          simp only [Act.put, List.setIfInBounds_toArray, List.set_cons_zero, List.set_cons_succ]
          refine take_at (i := 17) (v := ?v120) rfl (by kernel_rfl) (by kernel_rfl) (by kernel_rfl) (fun _ _ _ h => h) (Or.inl ⟨by rfl, ?y120⟩) hHeld ?t120
          case y120 => (intro wx hSw; go_simp <;> with_reducible rfl)
          simp only [Act.put, List.setIfInBounds_toArray, List.set_cons_zero, List.set_cons_succ]
          refine take_at (i := 18) (v := ?v121) rfl (by kernel_rfl) (by kernel_rfl) (by kernel_rfl) (fun _ _ _ h => h) (Or.inl ⟨by rfl, ?y121⟩) hHeld ?t121
          case y121 => (intro wx hSw; go_simp <;> with_reducible rfl)
          simp only [Act.put, List.setIfInBounds_toArray, List.set_cons_zero, List.set_cons_succ]
          refine take_at (i := 19) (v := ?v122) rfl (by kernel_rfl) (by kernel_rfl) (by kernel_rfl) (fun _ _ _ h => h) (Or.inl ⟨by rfl, ?y122⟩) hHeld ?t122
          case y122 => (intro wx hSw; go_simp <;> with_reducible rfl)
          simp only [Act.put, List.setIfInBounds_toArray, List.set_cons_zero, List.set_cons_succ]
          refine take_at (i := 20) (v := ?v123) rfl (by kernel_rfl) (by kernel_rfl) (by kernel_rfl) (fun _ _ _ h => h) (Or.inl ⟨by rfl, ?y123⟩) hHeld ?t123
          case y123 => (intro wx hSw; have hc4 : wx.cell? ⟨w.heap.size, 4, none⟩ = some (.int .i64 m.2.2.2.2.1) := hSw.c 4 (of_decide_eq_true rfl); go_simp <;> with_reducible rfl)
          simp only [Act.put, List.setIfInBounds_toArray, List.set_cons_zero, List.set_cons_succ]
          refine call_at (i := 9) (by kernel_rfl) rfl (fun K hK => ?_)
          go_simp
          refine (rAdd_any b r14.2 1099511627776 m.2.2.2.2.2.2.2.2 _ ((f14.alloc _).alloc _).drew).mono ?_
          rintro e w15 ⟨rfl, f15, k15⟩
          generalize e15 : addS r14.2 1099511627776 m.2.2.2.2.2.2.2.2 = r15 at f15 ⊢
          have E15 : Hid _ := e15
          clear e15
          have K15 : Kept b w w15 := Kept.trans ((K14.al _).al _).drew k15
          have B0_15 : Arr w.heap.size [.int .i64 m.1, .int .i64 m.2.1, .int .i64 m.2.2.1, .int .i64 m.2.2.2.1, .int .i64 m.2.2.2.2.1, .int .i64 m.2.2.2.2.2.1, .int .i64 m.2.2.2.2.2.2.1, .int .i64 m.2.2.2.2.2.2.2.1, .int .i64 m.2.2.2.2.2.2.2.2] w15 := ((B0_14.alloc _).alloc _).drew.kept k15 (by omega)
          have B1_15 : Arr (w.heap.size + 1) [.int .i64 0, .int .i64 0, .int .i64 0, .int .i64 0] w15 := ((B1_14.alloc _).alloc _).drew.kept k15 (by omega)
          have B2_15 : Arr w14.heap.size [.int .i64 0, .int .i64 0, .int .i64 0, .int .i64 0] w15 := ((Arr_at _ _ [.int .i64 0, .int .i64 0, .int .i64 0, .int .i64 0] _ (by simp)).alloc _).drew.kept k15 (by omega)
          have B3_15 : Arr (w14.heap.size + 1) [.int .i64 r12.1, .int .i64 r13.1, .int .i64 r14.1] w15 := (Arr_at _ _ [.int .i64 r12.1, .int .i64 r13.1, .int .i64 r14.1] _ (by simp)).drew.kept k15 (by omega)
          have z15 := B3_15.lies
          clear hHeld
          refine hK.out _ _ B0_15 (fun hHeld => ?_)
          clear hK K K14 f14 B0_14 B1_14 k15
          refine call_at (i := 15) (by kernel_rfl) rfl (fun K hK => ?_)
          go_simp
          refine (rSub_any b r15.2 r15.1 m.1 _ f15).mono ?_
          rintro e w16 ⟨rfl, f16, k16⟩
          generalize e16 : subS r15.2 r15.1 m.1 = r16 at f16 ⊢
          have E16 : Hid _ := e16
          clear e16
          have K16 : Kept b w w16 := Kept.trans K15 k16
          have B0_16 : Arr w.heap.size [.int .i64 m.1, .int .i64 m.2.1, .int .i64 m.2.2.1, .int .i64 m.2.2.2.1, .int .i64 m.2.2.2.2.1, .int .i64 m.2.2.2.2.2.1, .int .i64 m.2.2.2.2.2.2.1, .int .i64 m.2.2.2.2.2.2.2.1, .int .i64 m.2.2.2.2.2.2.2.2] w16 := B0_15.kept k16 (by omega)
          have B1_16 : Arr (w.heap.size + 1) [.int .i64 0, .int .i64 0, .int .i64 0, .int .i64 0] w16 := B1_15.kept k16 (by omega)
          have B2_16 : Arr w14.heap.size [.int .i64 0, .int .i64 0, .int .i64 0, .int .i64 0] w16 := B2_15.kept k16 (by omega)
          have B3_16 : Arr (w14.heap.size + 1) [.int .i64 r12.1, .int .i64 r13.1, .int .i64 r14.1] w16 := B3_15.kept k16 (by omega)
          have z16 := B3_16.lies
          clear hHeld
          refine hK.out _ _ B0_16 (fun hHeld => ?_)
          clear hK K K15 f15 B0_15 B1_15 B2_15 B3_15 k16
          refine call_at (i := 21) (by kernel_rfl) rfl (fun K hK => ?_)
          go_simp
          refine (rSub_any b r16.2 r16.1 m.2.2.2.2.1 _ f16).mono ?_
          rintro e w17 ⟨rfl, f17, k17⟩
          generalize e17 : subS r16.2 r16.1 m.2.2.2.2.1 = r17 at f17 ⊢
          have E17 : Hid _ := e17
          clear e17
          have K17 : Kept b w w17 := Kept.trans K16 k17
          have B0_17 : Arr w.heap.size [.int .i64 m.1, .int .i64 m.2.1, .int .i64 m.2.2.1, .int .i64 m.2.2.2.1, .int .i64 m.2.2.2.2.1, .int .i64 m.2.2.2.2.2.1, .int .i64 m.2.2.2.2.2.2.1, .int .i64 m.2.2.2.2.2.2.2.1, .int .i64 m.2.2.2.2.2.2.2.2] w17 := B0_16.kept k17 (by omega)
          have B1_17 : Arr (w.heap.size + 1) [.int .i64 0, .int .i64 0, .int .i64 0, .int .i64 0] w17 := B1_16.kept k17 (by omega)
          have B2_17 : Arr w14.heap.size [.int .i64 0, .int .i64 0, .int .i64 0, .int .i64 0] w17 := B2_16.kept k17 (by omega)
          have B3_17 : Arr (w14.heap.size + 1) [.int .i64 r12.1, .int .i64 r13.1, .int .i64 r14.1] w17 := B3_16.kept k17 (by omega)
          have z17 := B3_17.lies
          clear hHeld
          refine hK.out _ _ B0_17 (fun hHeld => ?_)
          clear hK K K16 f16 B0_16 B1_16 B2_16 B3_16 k17
          refine take_at (i := 22) (v := ?v124) rfl (by kernel_rfl) (by kernel_rfl) (by kernel_rfl) (fun _ _ _ h => h) (Or.inl ⟨by rfl, ?y124⟩) hHeld ?t124
          case y124 => (intro wx hSw; go_simp <;> with_reducible rfl)
          simp only [Act.put, List.setIfInBounds_toArray, List.set_cons_zero, List.set_cons_succ]
          refine call_at (i := 23) (by kernel_rfl) rfl (fun K hK => ?_)
          have c29_B2_2 : w17.cell? ⟨w14.heap.size, 2, none⟩ = some (.int .i64 0) := B2_17.c 2 (of_decide_eq_true rfl)
          have g29_B2_2 := B2_17.f 2 (of_decide_eq_true rfl)
          go_simp
          clear hHeld
          refine hK.out _ _ (B0_17.new w14.heap.size 2 (by omega) (.int .i64 r17.1)) (fun hHeld => ?_)
          clear hK K c29_B2_2 g29_B2_2
          refine wpAnyH_done (by kernel_rfl) ?_ _
          clear hHeld
          go_wp2_with fail
          refine wp_region_held_drew (S := fun w' => Arr w.heap.size [.int .i64 m.1, .int .i64 m.2.1, .int .i64 m.2.2.1, .int .i64 m.2.2.2.1, .int .i64 m.2.2.2.2.1, .int .i64 m.2.2.2.2.2.1, .int .i64 m.2.2.2.2.2.2.1, .int .i64 m.2.2.2.2.2.2.2.1, .int .i64 m.2.2.2.2.2.2.2.2] w') (by kernel_rfl) (B0_17.new w14.heap.size 2 (by omega) (.int .i64 r17.1)).drew (fun hHeld => ?_)
          refine take_at (i := 0) (v := ?v125) rfl (by kernel_rfl) (by kernel_rfl) (by kernel_rfl) (fun _ _ _ h => h) (Or.inl ⟨by rfl, ?y125⟩) hHeld ?t125
          case y125 => (intro wx hSw; go_simp <;> with_reducible rfl)
          simp only [Act.put, List.setIfInBounds_toArray, List.set_cons_zero, List.set_cons_succ]
          refine take_at (i := 1) (v := ?v126) rfl (by kernel_rfl) (by kernel_rfl) (by kernel_rfl) (fun _ _ _ h => h) (Or.inl ⟨by rfl, ?y126⟩) hHeld ?t126
          case y126 => (intro wx hSw; go_simp <;> with_reducible rfl)
          simp only [Act.put, List.setIfInBounds_toArray, List.set_cons_zero, List.set_cons_succ]
          refine take_at (i := 2) (v := ?v127) rfl (by kernel_rfl) (by kernel_rfl) (by kernel_rfl) (fun _ _ _ h => h) (Or.inl ⟨by rfl, ?y127⟩) hHeld ?t127
          case y127 => (intro wx hSw; go_simp <;> with_reducible rfl)
          simp only [Act.put, List.setIfInBounds_toArray, List.set_cons_zero, List.set_cons_succ]
          refine take_at (i := 3) (v := ?v128) rfl (by kernel_rfl) (by kernel_rfl) (by kernel_rfl) (fun _ _ _ h => h) (Or.inl ⟨by rfl, ?y128⟩) hHeld ?t128
          case y128 => (intro wx hSw; go_simp <;> with_reducible rfl)
          simp only [Act.put, List.setIfInBounds_toArray, List.set_cons_zero, List.set_cons_succ]
          refine take_at (i := 4) (v := ?v129) rfl (by kernel_rfl) (by kernel_rfl) (by kernel_rfl) (fun _ _ _ h => h) (Or.inl ⟨by rfl, ?y129⟩) hHeld ?t129
          case y129 => (intro wx hSw; go_simp <;> with_reducible rfl)
          simp only [Act.put, List.setIfInBounds_toArray, List.set_cons_zero, List.set_cons_succ]
          refine take_at (i := 5) (v := ?v130) rfl (by kernel_rfl) (by kernel_rfl) (by kernel_rfl) (fun _ _ _ h => h) (Or.inl ⟨by rfl, ?y130⟩) hHeld ?t130
          case y130 => (intro wx hSw; go_simp <;> with_reducible rfl)
          simp only [Act.put, List.setIfInBounds_toArray, List.set_cons_zero, List.set_cons_succ]
          refine take_at (i := 6) (v := ?v131) rfl (by kernel_rfl) (by kernel_rfl) (by kernel_rfl) (fun _ _ _ h => h) (Or.inl ⟨by rfl, ?y131⟩) hHeld ?t131
          case y131 => (intro wx hSw; have hc6 : wx.cell? ⟨w.heap.size, 6, none⟩ = some (.int .i64 m.2.2.2.2.2.2.1) := hSw.c 6 (of_decide_eq_true rfl); go_simp <;> with_reducible rfl)
          simp only [Act.put, List.setIfInBounds_toArray, List.set_cons_zero, List.set_cons_succ]
          refine take_at (i := 7) (v := ?v132) rfl (by kernel_rfl) (by kernel_rfl) (by kernel_rfl) (fun _ _ _ h => h) (Or.inl ⟨by rfl, ?y132⟩) hHeld ?t132
          case y132 => (intro wx hSw; go_simp <;> with_reducible rfl)
          simp only [Act.put, List.setIfInBounds_toArray, List.set_cons_zero, List.set_cons_succ]
          refine take_at (i := 8) (v := ?v133) rfl (by kernel_rfl) (by kernel_rfl) (by kernel_rfl) (fun _ _ _ h => h) (Or.inl ⟨by rfl, ?y133⟩) hHeld ?t133
          case y133 => (intro wx hSw; go_simp <;> with_reducible rfl)
          simp only [Act.put, List.setIfInBounds_toArray, List.set_cons_zero, List.set_cons_succ]
          refine take_at (i := 9) (v := ?v134) rfl (by kernel_rfl) (by kernel_rfl) (by kernel_rfl) (fun _ _ _ h => h) (Or.inl ⟨by rfl, ?y134⟩) hHeld ?t134
          case y134 => (intro wx hSw; go_simp <;> with_reducible rfl)
          simp only [Act.put, List.setIfInBounds_toArray, List.set_cons_zero, List.set_cons_succ]
          refine take_at (i := 10) (v := ?v135) rfl (by kernel_rfl) (by kernel_rfl) (by kernel_rfl) (fun _ _ _ h => h) (Or.inl ⟨by rfl, ?y135⟩) hHeld ?t135
          case y135 => (intro wx hSw; go_simp <;> with_reducible rfl)
          simp only [Act.put, List.setIfInBounds_toArray, List.set_cons_zero, List.set_cons_succ]
          refine take_at (i := 11) (v := ?v136) rfl (by kernel_rfl) (by kernel_rfl) (by kernel_rfl) (fun _ _ _ h => h) (Or.inl ⟨by rfl, ?y136⟩) hHeld ?t136
          case y136 => (intro wx hSw; have hc2 : wx.cell? ⟨w.heap.size, 2, none⟩ = some (.int .i64 m.2.2.1) := hSw.c 2 (of_decide_eq_true rfl); go_simp <;> with_reducible rfl)
          simp only [Act.put, List.setIfInBounds_toArray, List.set_cons_zero, List.set_cons_succ]
          refine call_at (i := 12) (by kernel_rfl) rfl (fun K hK => ?_)
          go_simp
          refine (rAdd_any b r17.2 m.2.2.2.2.2.2.1 m.2.2.1 _ (f17.new w14.heap.size 2 (by omega) (.int .i64 r17.1)).drew).mono ?_
          rintro e w18 ⟨rfl, f18, k18⟩
          generalize e18 : addS r17.2 m.2.2.2.2.2.2.1 m.2.2.1 = r18 at f18 ⊢
          have E18 : Hid _ := e18
          clear e18
          have K18 : Kept b w w18 := Kept.trans (K17.new _ _ (by omega) _).drew k18
          have B0_18 : Arr w.heap.size [.int .i64 m.1, .int .i64 m.2.1, .int .i64 m.2.2.1, .int .i64 m.2.2.2.1, .int .i64 m.2.2.2.2.1, .int .i64 m.2.2.2.2.2.1, .int .i64 m.2.2.2.2.2.2.1, .int .i64 m.2.2.2.2.2.2.2.1, .int .i64 m.2.2.2.2.2.2.2.2] w18 := (B0_17.new w14.heap.size 2 (by omega) (.int .i64 r17.1)).drew.kept k18 (by omega)
          have B1_18 : Arr (w.heap.size + 1) [.int .i64 0, .int .i64 0, .int .i64 0, .int .i64 0] w18 := (B1_17.new w14.heap.size 2 (by omega) (.int .i64 r17.1)).drew.kept k18 (by omega)
          have B2_18 : Arr w14.heap.size [.int .i64 0, .int .i64 0, .int .i64 r17.1, .int .i64 0] w18 := (B2_17.put 2 (of_decide_eq_true rfl) (.int .i64 r17.1) [.int .i64 0, .int .i64 0, .int .i64 r17.1, .int .i64 0] rfl).drew.kept k18 (by omega)
          have B3_18 : Arr (w14.heap.size + 1) [.int .i64 r12.1, .int .i64 r13.1, .int .i64 r14.1] w18 := (B3_17.new w14.heap.size 2 (by omega) (.int .i64 r17.1)).drew.kept k18 (by omega)
          have z18 := B3_18.lies
          clear hHeld
          refine hK.out _ _ B0_18 (fun hHeld => ?_)
          clear hK K K17 f17 B0_17 B1_17 B2_17 B3_17 k18
          refine take_at (i := 13) (v := ?v137) rfl (by kernel_rfl) (by kernel_rfl) (by kernel_rfl) (fun _ _ _ h => h) (Or.inl ⟨by rfl, ?y137⟩) hHeld ?t137
          case y137 => (intro wx hSw; go_simp <;> with_reducible rfl)
          simp only [Act.put, List.setIfInBounds_toArray, List.set_cons_zero, List.set_cons_succ]
          refine call_at (i := 14) (by kernel_rfl) rfl (fun K hK => ?_)
          have c31_B2_0 : w18.cell? ⟨w14.heap.size, 0, none⟩ = some (.int .i64 0) := B2_18.c 0 (of_decide_eq_true rfl)
          have g31_B2_0 := B2_18.f 0 (of_decide_eq_true rfl)
          go_simp
          clear hHeld
          refine hK.out _ _ (B0_18.new w14.heap.size 0 (by omega) (.int .i64 r18.1)) (fun hHeld => ?_)
          clear hK K c31_B2_0 g31_B2_0
          refine wpAnyH_done (by kernel_rfl) ?_ _
          clear hHeld
          go_wp2_with fail
          refine wp_region_held_drew (S := fun w' => Arr w.heap.size [.int .i64 m.1, .int .i64 m.2.1, .int .i64 m.2.2.1, .int .i64 m.2.2.2.1, .int .i64 m.2.2.2.2.1, .int .i64 m.2.2.2.2.2.1, .int .i64 m.2.2.2.2.2.2.1, .int .i64 m.2.2.2.2.2.2.2.1, .int .i64 m.2.2.2.2.2.2.2.2] w') (by kernel_rfl) (B0_18.new w14.heap.size 0 (by omega) (.int .i64 r18.1)).drew (fun hHeld => ?_)
          refine take_at (i := 0) (v := ?v138) rfl (by kernel_rfl) (by kernel_rfl) (by kernel_rfl) (fun _ _ _ h => h) (Or.inl ⟨by rfl, ?y138⟩) hHeld ?t138
          case y138 => (intro wx hSw; go_simp <;> with_reducible rfl)
          simp only [Act.put, List.setIfInBounds_toArray, List.set_cons_zero, List.set_cons_succ]
          refine take_at (i := 1) (v := ?v139) rfl (by kernel_rfl) (by kernel_rfl) (by kernel_rfl) (fun _ _ _ h => h) (Or.inl ⟨by rfl, ?y139⟩) hHeld ?t139
          case y139 => (intro wx hSw; go_simp <;> with_reducible rfl)
          simp only [Act.put, List.setIfInBounds_toArray, List.set_cons_zero, List.set_cons_succ]
          refine take_at (i := 2) (v := ?v140) rfl (by kernel_rfl) (by kernel_rfl) (by kernel_rfl) (fun _ _ _ h => h) (Or.inl ⟨by rfl, ?y140⟩) hHeld ?t140
          case y140 => (intro wx hSw; go_simp <;> with_reducible rfl)
          simp only [Act.put, List.setIfInBounds_toArray, List.set_cons_zero, List.set_cons_succ]
          refine take_at (i := 3) (v := ?v141) rfl (by kernel_rfl) (by kernel_rfl) (by kernel_rfl) (fun _ _ _ h => h) (Or.inl ⟨by rfl, ?y141⟩) hHeld ?t141
          case y141 => (intro wx hSw; go_simp <;> with_reducible rfl)
          simp only [Act.put, List.setIfInBounds_toArray, List.set_cons_zero, List.set_cons_succ]
          refine take_at (i := 4) (v := ?v142) rfl (by kernel_rfl) (by kernel_rfl) (by kernel_rfl) (fun _ _ _ h => h) (Or.inl ⟨by rfl, ?y142⟩) hHeld ?t142
          case y142 => (intro wx hSw; go_simp <;> with_reducible rfl)
          simp only [Act.put, List.setIfInBounds_toArray, List.set_cons_zero, List.set_cons_succ]
          refine take_at (i := 5) (v := ?v143) rfl (by kernel_rfl) (by kernel_rfl) (by kernel_rfl) (fun _ _ _ h => h) (Or.inl ⟨by rfl, ?y143⟩) hHeld ?t143
          case y143 => (intro wx hSw; go_simp <;> with_reducible rfl)
          simp only [Act.put, List.setIfInBounds_toArray, List.set_cons_zero, List.set_cons_succ]
          refine take_at (i := 6) (v := ?v144) rfl (by kernel_rfl) (by kernel_rfl) (by kernel_rfl) (fun _ _ _ h => h) (Or.inl ⟨by rfl, ?y144⟩) hHeld ?t144
          case y144 => (intro wx hSw; have hc7 : wx.cell? ⟨w.heap.size, 7, none⟩ = some (.int .i64 m.2.2.2.2.2.2.2.1) := hSw.c 7 (of_decide_eq_true rfl); go_simp <;> with_reducible rfl)
          simp only [Act.put, List.setIfInBounds_toArray, List.set_cons_zero, List.set_cons_succ]
          refine take_at (i := 7) (v := ?v145) rfl (by kernel_rfl) (by kernel_rfl) (by kernel_rfl) (fun _ _ _ h => h) (Or.inl ⟨by rfl, ?y145⟩) hHeld ?t145
          case y145 => (intro wx hSw; go_simp <;> with_reducible rfl)
          simp only [Act.put, List.setIfInBounds_toArray, List.set_cons_zero, List.set_cons_succ]
          refine take_at (i := 8) (v := ?v146) rfl (by kernel_rfl) (by kernel_rfl) (by kernel_rfl) (fun _ _ _ h => h) (Or.inl ⟨by rfl, ?y146⟩) hHeld ?t146
          case y146 => (intro wx hSw; go_simp <;> with_reducible rfl)
          simp only [Act.put, List.setIfInBounds_toArray, List.set_cons_zero, List.set_cons_succ]
          refine take_at (i := 9) (v := ?v147) rfl (by kernel_rfl) (by kernel_rfl) (by kernel_rfl) (fun _ _ _ h => h) (Or.inl ⟨by rfl, ?y147⟩) hHeld ?t147
          case y147 => (intro wx hSw; go_simp <;> with_reducible rfl)
          simp only [Act.put, List.setIfInBounds_toArray, List.set_cons_zero, List.set_cons_succ]
          refine take_at (i := 10) (v := ?v148) rfl (by kernel_rfl) (by kernel_rfl) (by kernel_rfl) (fun _ _ _ h => h) (Or.inl ⟨by rfl, ?y148⟩) hHeld ?t148
          case y148 => (intro wx hSw; go_simp <;> with_reducible rfl)
          simp only [Act.put, List.setIfInBounds_toArray, List.set_cons_zero, List.set_cons_succ]
          refine take_at (i := 11) (v := ?v149) rfl (by kernel_rfl) (by kernel_rfl) (by kernel_rfl) (fun _ _ _ h => h) (Or.inl ⟨by rfl, ?y149⟩) hHeld ?t149
          case y149 => (intro wx hSw; have hc5 : wx.cell? ⟨w.heap.size, 5, none⟩ = some (.int .i64 m.2.2.2.2.2.1) := hSw.c 5 (of_decide_eq_true rfl); go_simp <;> with_reducible rfl)
          simp only [Act.put, List.setIfInBounds_toArray, List.set_cons_zero, List.set_cons_succ]
          refine call_at (i := 12) (by kernel_rfl) rfl (fun K hK => ?_)
          go_simp
          refine (rAdd_any b r18.2 m.2.2.2.2.2.2.2.1 m.2.2.2.2.2.1 _ (f18.new w14.heap.size 0 (by omega) (.int .i64 r18.1)).drew).mono ?_
          rintro e w19 ⟨rfl, f19, k19⟩
          generalize e19 : addS r18.2 m.2.2.2.2.2.2.2.1 m.2.2.2.2.2.1 = r19 at f19 ⊢
          have E19 : Hid _ := e19
          clear e19
          have K19 : Kept b w w19 := Kept.trans (K18.new _ _ (by omega) _).drew k19
          have B0_19 : Arr w.heap.size [.int .i64 m.1, .int .i64 m.2.1, .int .i64 m.2.2.1, .int .i64 m.2.2.2.1, .int .i64 m.2.2.2.2.1, .int .i64 m.2.2.2.2.2.1, .int .i64 m.2.2.2.2.2.2.1, .int .i64 m.2.2.2.2.2.2.2.1, .int .i64 m.2.2.2.2.2.2.2.2] w19 := (B0_18.new w14.heap.size 0 (by omega) (.int .i64 r18.1)).drew.kept k19 (by omega)
          have B1_19 : Arr (w.heap.size + 1) [.int .i64 0, .int .i64 0, .int .i64 0, .int .i64 0] w19 := (B1_18.new w14.heap.size 0 (by omega) (.int .i64 r18.1)).drew.kept k19 (by omega)
          have B2_19 : Arr w14.heap.size [.int .i64 r18.1, .int .i64 0, .int .i64 r17.1, .int .i64 0] w19 := (B2_18.put 0 (of_decide_eq_true rfl) (.int .i64 r18.1) [.int .i64 r18.1, .int .i64 0, .int .i64 r17.1, .int .i64 0] rfl).drew.kept k19 (by omega)
          have B3_19 : Arr (w14.heap.size + 1) [.int .i64 r12.1, .int .i64 r13.1, .int .i64 r14.1] w19 := (B3_18.new w14.heap.size 0 (by omega) (.int .i64 r18.1)).drew.kept k19 (by omega)
          have z19 := B3_19.lies
          clear hHeld
          refine hK.out _ _ B0_19 (fun hHeld => ?_)
          clear hK K K18 f18 B0_18 B1_18 B2_18 B3_18 k19
          refine take_at (i := 13) (v := ?v150) rfl (by kernel_rfl) (by kernel_rfl) (by kernel_rfl) (fun _ _ _ h => h) (Or.inl ⟨by rfl, ?y150⟩) hHeld ?t150
          case y150 => (intro wx hSw; go_simp <;> with_reducible rfl)
          simp only [Act.put, List.setIfInBounds_toArray, List.set_cons_zero, List.set_cons_succ]
          refine call_at (i := 14) (by kernel_rfl) rfl (fun K hK => ?_)
          have c33_B2_1 : w19.cell? ⟨w14.heap.size, 1, none⟩ = some (.int .i64 0) := B2_19.c 1 (of_decide_eq_true rfl)
          have g33_B2_1 := B2_19.f 1 (of_decide_eq_true rfl)
          go_simp
          clear hHeld
          refine hK.out _ _ (B0_19.new w14.heap.size 1 (by omega) (.int .i64 r19.1)) (fun hHeld => ?_)
          clear hK K c33_B2_1 g33_B2_1
          refine wpAnyH_done (by kernel_rfl) ?_ _
          clear hHeld
          have c34_B2_0 : w19.cell? ⟨w14.heap.size, 0, none⟩ = some (.int .i64 r18.1) := B2_19.c 0 (of_decide_eq_true rfl)
          have c34_B2_1 : w19.cell? ⟨w14.heap.size, 1, none⟩ = some (.int .i64 0) := B2_19.c 1 (of_decide_eq_true rfl)
          have c34_B2_2 : w19.cell? ⟨w14.heap.size, 2, none⟩ = some (.int .i64 r17.1) := B2_19.c 2 (of_decide_eq_true rfl)
          have c34_B2_3 : w19.cell? ⟨w14.heap.size, 3, none⟩ = some (.int .i64 0) := B2_19.c 3 (of_decide_eq_true rfl)
          have c34_B3_2 : w19.cell? ⟨w14.heap.size + 1, 2, none⟩ = some (.int .i64 r14.1) := B3_19.c 2 (of_decide_eq_true rfl)
          have g34_B2_3 := B2_19.f 3 (of_decide_eq_true rfl)
          go_wp2_with fail
          refine (xUnit_any b r19.2 (r18.1, r19.1, r17.1, r14.1) _ ((f19.new w14.heap.size 1 (by omega) (.int .i64 r19.1)).new w14.heap.size 3 (by omega) (.int .i64 r14.1))).mono ?_
          rintro e w20 ⟨rfl, f20, k20⟩
          generalize e20 : xUnitS r19.2 (r18.1, r19.1, r17.1, r14.1) = r20 at f20 ⊢
          have E20 : Hid _ := e20
          clear e20
          have K20 : Kept b w w20 := Kept.trans ((K19.new _ _ (by omega) _).new _ _ (by omega) _) k20
          have B0_20 : Arr w.heap.size [.int .i64 m.1, .int .i64 m.2.1, .int .i64 m.2.2.1, .int .i64 m.2.2.2.1, .int .i64 m.2.2.2.2.1, .int .i64 m.2.2.2.2.2.1, .int .i64 m.2.2.2.2.2.2.1, .int .i64 m.2.2.2.2.2.2.2.1, .int .i64 m.2.2.2.2.2.2.2.2] w20 := ((B0_19.new w14.heap.size 1 (by omega) (.int .i64 r19.1)).new w14.heap.size 3 (by omega) (.int .i64 r14.1)).kept k20 (by omega)
          have B1_20 : Arr (w.heap.size + 1) [.int .i64 0, .int .i64 0, .int .i64 0, .int .i64 0] w20 := ((B1_19.new w14.heap.size 1 (by omega) (.int .i64 r19.1)).new w14.heap.size 3 (by omega) (.int .i64 r14.1)).kept k20 (by omega)
          have B2_20 : Arr w14.heap.size [.int .i64 r18.1, .int .i64 r19.1, .int .i64 r17.1, .int .i64 r14.1] w20 := ((B2_19.put 1 (of_decide_eq_true rfl) (.int .i64 r19.1) [.int .i64 r18.1, .int .i64 r19.1, .int .i64 r17.1, .int .i64 0] rfl).put 3 (of_decide_eq_true rfl) (.int .i64 r14.1) [.int .i64 r18.1, .int .i64 r19.1, .int .i64 r17.1, .int .i64 r14.1] rfl).kept k20 (by omega)
          have B3_20 : Arr (w14.heap.size + 1) [.int .i64 r12.1, .int .i64 r13.1, .int .i64 r14.1] w20 := ((B3_19.new w14.heap.size 1 (by omega) (.int .i64 r19.1)).new w14.heap.size 3 (by omega) (.int .i64 r14.1)).kept k20 (by omega)
          have z20 := B3_20.lies
          clear c34_B2_0 c34_B2_1 c34_B2_2 c34_B2_3 c34_B3_2 g34_B2_3 K19 f19 B0_19 B1_19 B2_19 B3_19 k20
          have c35_B1_0 : w20.cell? ⟨w.heap.size + 1, 0, none⟩ = some (.int .i64 0) := B1_20.c 0 (of_decide_eq_true rfl)
          have c35_B1_1 : w20.cell? ⟨w.heap.size + 1, 1, none⟩ = some (.int .i64 0) := B1_20.c 1 (of_decide_eq_true rfl)
          have c35_B1_2 : w20.cell? ⟨w.heap.size + 1, 2, none⟩ = some (.int .i64 0) := B1_20.c 2 (of_decide_eq_true rfl)
          have c35_B1_3 : w20.cell? ⟨w.heap.size + 1, 3, none⟩ = some (.int .i64 0) := B1_20.c 3 (of_decide_eq_true rfl)
          have g35_B1_0 := B1_20.f 0 (of_decide_eq_true rfl)
          have g35_B1_1 := B1_20.f 1 (of_decide_eq_true rfl)
          have g35_B1_2 := B1_20.f 2 (of_decide_eq_true rfl)
          have g35_B1_3 := B1_20.f 3 (of_decide_eq_true rfl)
          go_wp2_with (with_reducible refine post_stop ?_)
          refine Stop.mk ?_
          clear c35_B1_0 c35_B1_1 c35_B1_2 c35_B1_3 g35_B1_0 g35_B1_1 g35_B1_2 g35_B1_3
          refine bodyPost_ret (v := .agg #[.int .i64 r20.1.1, .int .i64 r20.1.2.1, .int .i64 r20.1.2.2.1, .int .i64 r20.1.2.2.2]) (results_arr Try.results29 ((((B1_20.put 0 (of_decide_eq_true rfl) (.int .i64 r20.1.1) [.int .i64 r20.1.1, .int .i64 0, .int .i64 0, .int .i64 0] rfl).put 1 (of_decide_eq_true rfl) (.int .i64 r20.1.2.1) [.int .i64 r20.1.1, .int .i64 r20.1.2.1, .int .i64 0, .int .i64 0] rfl).put 2 (of_decide_eq_true rfl) (.int .i64 r20.1.2.2.1) [.int .i64 r20.1.1, .int .i64 r20.1.2.1, .int .i64 r20.1.2.2.1, .int .i64 0] rfl).put 3 (of_decide_eq_true rfl) (.int .i64 r20.1.2.2.2) [.int .i64 r20.1.1, .int .i64 r20.1.2.1, .int .i64 r20.1.2.2.1, .int .i64 r20.1.2.2.2] rfl) rfl (by kernel_rfl) (by kernel_rfl)) rfl ?_
          have hs : xFromMatrixS bad m = (r20.1, r20.2) := by unfold xFromMatrixS; simp only [E1.out, E2.out, E3.out, E4.out, E5.out, E6.out, E7.out, E8.out, E9.out, E10.out, E11.out, E12.out, E13.out, E14.out, E15.out, E16.out, E17.out, E18.out, E19.out, E20.out]; rw [if_neg (by rw [Hhc1.out]; decide)]; rw [if_pos (by have := Hhc2.out; omega)]; rw [if_neg (by have := Hhc3.out; omega)]; rw [if_pos (by have := Hhc4.out; omega)]
          rw [hs]
          exact ⟨rfl, ((((f20.new (w.heap.size + 1) 0 (by omega) (.int .i64 r20.1.1)).new (w.heap.size + 1) 1 (by omega) (.int .i64 r20.1.2.1)).new (w.heap.size + 1) 2 (by omega) (.int .i64 r20.1.2.2.1)).new (w.heap.size + 1) 3 (by omega) (.int .i64 r20.1.2.2.2)), ((((K20.new _ _ (by omega) _).new _ _ (by omega) _).new _ _ (by omega) _).new _ _ (by omega) _)⟩
        · have Hhc4 : Hid (¬ m.2.2.2.2.2.2.2.2 > m.1) := hc4
          have c24_B0_8 : w11.cell? ⟨w.heap.size, 8, none⟩ = some (.int .i64 m.2.2.2.2.2.2.2.2) := B0_11.c 8 (of_decide_eq_true rfl)
          go_wp2_with fail
          clear c24_B0_8
          rw [rounds_succ]
          have c25_B0_5 : w11.cell? ⟨w.heap.size, 5, none⟩ = some (.int .i64 m.2.2.2.2.2.1) := B0_11.c 5 (of_decide_eq_true rfl)
          have c25_B0_7 : w11.cell? ⟨w.heap.size, 7, none⟩ = some (.int .i64 m.2.2.2.2.2.2.2.1) := B0_11.c 7 (of_decide_eq_true rfl)
          go_wp2_with fail
          refine (rSub_any b r11.2 m.2.2.2.2.2.1 m.2.2.2.2.2.2.2.1 _ f11).mono ?_
          rintro e w12 ⟨rfl, f12, k12⟩
          generalize e12 : subS r11.2 m.2.2.2.2.2.1 m.2.2.2.2.2.2.2.1 = r12 at f12 ⊢
          have E12 : Hid _ := e12
          clear e12
          have K12 : Kept b w w12 := Kept.trans K11 k12
          have B0_12 : Arr w.heap.size [.int .i64 m.1, .int .i64 m.2.1, .int .i64 m.2.2.1, .int .i64 m.2.2.2.1, .int .i64 m.2.2.2.2.1, .int .i64 m.2.2.2.2.2.1, .int .i64 m.2.2.2.2.2.2.1, .int .i64 m.2.2.2.2.2.2.2.1, .int .i64 m.2.2.2.2.2.2.2.2] w12 := B0_11.kept k12 (by omega)
          have B1_12 : Arr (w.heap.size + 1) [.int .i64 0, .int .i64 0, .int .i64 0, .int .i64 0] w12 := B1_11.kept k12 (by omega)
          have z12 := B1_12.lies
          clear c25_B0_5 c25_B0_7 K11 f11 B0_11 B1_11 k12
          have c26_B0_2 : w12.cell? ⟨w.heap.size, 2, none⟩ = some (.int .i64 m.2.2.1) := B0_12.c 2 (of_decide_eq_true rfl)
          have c26_B0_6 : w12.cell? ⟨w.heap.size, 6, none⟩ = some (.int .i64 m.2.2.2.2.2.2.1) := B0_12.c 6 (of_decide_eq_true rfl)
          go_wp2_with fail
          refine (rSub_any b r12.2 m.2.2.2.2.2.2.1 m.2.2.1 _ f12).mono ?_
          rintro e w13 ⟨rfl, f13, k13⟩
          generalize e13 : subS r12.2 m.2.2.2.2.2.2.1 m.2.2.1 = r13 at f13 ⊢
          have E13 : Hid _ := e13
          clear e13
          have K13 : Kept b w w13 := Kept.trans K12 k13
          have B0_13 : Arr w.heap.size [.int .i64 m.1, .int .i64 m.2.1, .int .i64 m.2.2.1, .int .i64 m.2.2.2.1, .int .i64 m.2.2.2.2.1, .int .i64 m.2.2.2.2.2.1, .int .i64 m.2.2.2.2.2.2.1, .int .i64 m.2.2.2.2.2.2.2.1, .int .i64 m.2.2.2.2.2.2.2.2] w13 := B0_12.kept k13 (by omega)
          have B1_13 : Arr (w.heap.size + 1) [.int .i64 0, .int .i64 0, .int .i64 0, .int .i64 0] w13 := B1_12.kept k13 (by omega)
          have z13 := B1_13.lies
          clear c26_B0_2 c26_B0_6 K12 f12 B0_12 B1_12 k13
          have c27_B0_1 : w13.cell? ⟨w.heap.size, 1, none⟩ = some (.int .i64 m.2.1) := B0_13.c 1 (of_decide_eq_true rfl)
          have c27_B0_3 : w13.cell? ⟨w.heap.size, 3, none⟩ = some (.int .i64 m.2.2.2.1) := B0_13.c 3 (of_decide_eq_true rfl)
          go_wp2_with fail
          refine (rSub_any b r13.2 m.2.1 m.2.2.2.1 _ f13).mono ?_
          rintro e w14 ⟨rfl, f14, k14⟩
          generalize e14 : subS r13.2 m.2.1 m.2.2.2.1 = r14 at f14 ⊢
          have E14 : Hid _ := e14
          clear e14
          have K14 : Kept b w w14 := Kept.trans K13 k14
          have B0_14 : Arr w.heap.size [.int .i64 m.1, .int .i64 m.2.1, .int .i64 m.2.2.1, .int .i64 m.2.2.2.1, .int .i64 m.2.2.2.2.1, .int .i64 m.2.2.2.2.2.1, .int .i64 m.2.2.2.2.2.2.1, .int .i64 m.2.2.2.2.2.2.2.1, .int .i64 m.2.2.2.2.2.2.2.2] w14 := B0_13.kept k14 (by omega)
          have B1_14 : Arr (w.heap.size + 1) [.int .i64 0, .int .i64 0, .int .i64 0, .int .i64 0] w14 := B1_13.kept k14 (by omega)
          have z14 := B1_14.lies
          clear c27_B0_1 c27_B0_3 K13 f13 B0_13 B1_13 k14
          go_wp2_with fail
          refine wp_region_held_drew (S := fun w' => Arr w.heap.size [.int .i64 m.1, .int .i64 m.2.1, .int .i64 m.2.2.1, .int .i64 m.2.2.2.1, .int .i64 m.2.2.2.2.1, .int .i64 m.2.2.2.2.2.1, .int .i64 m.2.2.2.2.2.2.1, .int .i64 m.2.2.2.2.2.2.2.1, .int .i64 m.2.2.2.2.2.2.2.2] w') (by kernel_rfl) ((B0_14.alloc _).alloc _).drew (fun hHeld => ?_)
          refine take_at (i := 0) (v := ?v151) rfl (by kernel_rfl) (by kernel_rfl) (by kernel_rfl) (fun _ _ _ h => h) (Or.inl ⟨by rfl, ?y151⟩) hHeld ?t151
          case y151 => (intro wx hSw; go_simp <;> with_reducible rfl)
          simp only [Act.put, List.setIfInBounds_toArray, List.set_cons_zero, List.set_cons_succ]
          refine take_at (i := 1) (v := ?v152) rfl (by kernel_rfl) (by kernel_rfl) (by kernel_rfl) (fun _ _ _ h => h) (Or.inl ⟨by rfl, ?y152⟩) hHeld ?t152
          case y152 => (intro wx hSw; go_simp <;> with_reducible rfl)
          simp only [Act.put, List.setIfInBounds_toArray, List.set_cons_zero, List.set_cons_succ]
          refine take_at (i := 2) (v := ?v153) rfl (by kernel_rfl) (by kernel_rfl) (by kernel_rfl) (fun _ _ _ h => h) (Or.inl ⟨by rfl, ?y153⟩) hHeld ?t153
          case y153 => (intro wx hSw; go_simp <;> with_reducible rfl)
          simp only [Act.put, List.setIfInBounds_toArray, List.set_cons_zero, List.set_cons_succ]
          refine take_at (i := 3) (v := ?v154) rfl (by kernel_rfl) (by kernel_rfl) (by kernel_rfl) (fun _ _ _ h => h) (Or.inl ⟨by rfl, ?y154⟩) hHeld ?t154
          case y154 => (intro wx hSw; go_simp <;> with_reducible rfl)
          simp only [Act.put, List.setIfInBounds_toArray, List.set_cons_zero, List.set_cons_succ]
          refine take_at (i := 4) (v := ?v155) rfl (by kernel_rfl) (by kernel_rfl) (by kernel_rfl) (fun _ _ _ h => h) (Or.inl ⟨by rfl, ?y155⟩) hHeld ?t155
          case y155 => (intro wx hSw; go_simp <;> with_reducible rfl)
          simp only [Act.put, List.setIfInBounds_toArray, List.set_cons_zero, List.set_cons_succ]
          refine take_at (i := 5) (v := ?v156) rfl (by kernel_rfl) (by kernel_rfl) (by kernel_rfl) (fun _ _ _ h => h) (Or.inl ⟨by rfl, ?y156⟩) hHeld ?t156
          case y156 => (intro wx hSw; go_simp <;> with_reducible rfl)
          simp only [Act.put, List.setIfInBounds_toArray, List.set_cons_zero, List.set_cons_succ]
          refine take_at (i := 6) (v := ?v157) rfl (by kernel_rfl) (by kernel_rfl) (by kernel_rfl) (fun _ _ _ h => h) (Or.inl ⟨by rfl, ?y157⟩) hHeld ?t157
          case y157 => (intro wx hSw; go_simp <;> with_reducible rfl)
          simp only [Act.put, List.setIfInBounds_toArray, List.set_cons_zero, List.set_cons_succ]
          refine take_at (i := 7) (v := ?v158) rfl (by kernel_rfl) (by kernel_rfl) (by kernel_rfl) (fun _ _ _ h => h) (Or.inl ⟨by rfl, ?y158⟩) hHeld ?t158
          case y158 => (intro wx hSw; go_simp <;> with_reducible rfl)
          simp only [Act.put, List.setIfInBounds_toArray, List.set_cons_zero, List.set_cons_succ]
          refine take_at (i := 8) (v := ?v159) rfl (by kernel_rfl) (by kernel_rfl) (by kernel_rfl) (fun _ _ _ h => h) (Or.inl ⟨by rfl, ?y159⟩) hHeld ?t159
          case y159 => (intro wx hSw; have hc0 : wx.cell? ⟨w.heap.size, 0, none⟩ = some (.int .i64 m.1) := hSw.c 0 (of_decide_eq_true rfl); go_simp <;> with_reducible rfl)
          simp only [Act.put, List.setIfInBounds_toArray, List.set_cons_zero, List.set_cons_succ]
          refine take_at (i := 10) (v := ?v160) rfl (by kernel_rfl) (by kernel_rfl) (by kernel_rfl) (fun _ _ _ h => h) (Or.inl ⟨by rfl, ?y160⟩) hHeld ?t160
          case y160 => (intro wx hSw; go_simp <;> with_reducible rfl)
          simp only [Act.put, List.setIfInBounds_toArray, List.set_cons_zero, List.set_cons_succ]
          refine take_at (i := 11) (v := ?v161) rfl (by kernel_rfl) (by kernel_rfl) (by kernel_rfl) (fun _ _ _ h => h) (Or.inl ⟨by rfl, ?y161⟩) hHeld ?t161
          case y161 => (intro wx hSw; go_simp <;> with_reducible rfl)
          simp only [Act.put, List.setIfInBounds_toArray, List.set_cons_zero, List.set_cons_succ]
          refine take_at (i := 12) (v := ?v162) rfl (by kernel_rfl) (by kernel_rfl) (by kernel_rfl) (fun _ _ _ h => h) (Or.inl ⟨by rfl, ?y162⟩) hHeld ?t162
          case y162 => (intro wx hSw; go_simp <;> with_reducible rfl)
          simp only [Act.put, List.setIfInBounds_toArray, List.set_cons_zero, List.set_cons_succ]
          refine take_at (i := 13) (v := ?v163) rfl (by kernel_rfl) (by kernel_rfl) (by kernel_rfl) (fun _ _ _ h => h) (Or.inl ⟨by rfl, ?y163⟩) hHeld ?t163
          case y163 => (intro wx hSw; go_simp <;> with_reducible rfl)
          simp only [Act.put, List.setIfInBounds_toArray, List.set_cons_zero, List.set_cons_succ]
          refine take_at (i := 14) (v := ?v164) rfl (by kernel_rfl) (by kernel_rfl) (by kernel_rfl) (fun _ _ _ h => h) (Or.inl ⟨by rfl, ?y164⟩) hHeld ?t164
          case y164 => (intro wx hSw; have hc4 : wx.cell? ⟨w.heap.size, 4, none⟩ = some (.int .i64 m.2.2.2.2.1) := hSw.c 4 (of_decide_eq_true rfl); go_simp <;> with_reducible rfl)
          simp only [Act.put, List.setIfInBounds_toArray, List.set_cons_zero, List.set_cons_succ]
          refine take_at (i := 16) (v := ?v165) rfl (by kernel_rfl) (by kernel_rfl) (by kernel_rfl) (fun _ _ _ h => h) (Or.inl ⟨by rfl, ?y165⟩) hHeld ?t165
          case y165 => (intro wx hSw; go_simp <;> with_reducible rfl)
          simp only [Act.put, List.setIfInBounds_toArray, List.set_cons_zero, List.set_cons_succ]
          refine take_at (i := 17) (v := ?v166) rfl (by kernel_rfl) (by kernel_rfl) (by kernel_rfl) (fun _ _ _ h => h) (Or.inl ⟨by rfl, ?y166⟩) hHeld ?t166
          case y166 => (intro wx hSw; go_simp <;> with_reducible rfl)
          simp only [Act.put, List.setIfInBounds_toArray, List.set_cons_zero, List.set_cons_succ]
          refine take_at (i := 18) (v := ?v167) rfl (by kernel_rfl) (by kernel_rfl) (by kernel_rfl) (fun _ _ _ h => h) (Or.inl ⟨by rfl, ?y167⟩) hHeld ?t167
          case y167 => (intro wx hSw; go_simp <;> with_reducible rfl)
          simp only [Act.put, List.setIfInBounds_toArray, List.set_cons_zero, List.set_cons_succ]
          refine take_at (i := 19) (v := ?v168) rfl (by kernel_rfl) (by kernel_rfl) (by kernel_rfl) (fun _ _ _ h => h) (Or.inl ⟨by rfl, ?y168⟩) hHeld ?t168
          case y168 => (intro wx hSw; go_simp <;> with_reducible rfl)
          simp only [Act.put, List.setIfInBounds_toArray, List.set_cons_zero, List.set_cons_succ]
          refine take_at (i := 20) (v := ?v169) rfl (by kernel_rfl) (by kernel_rfl) (by kernel_rfl) (fun _ _ _ h => h) (Or.inl ⟨by rfl, ?y169⟩) hHeld ?t169
          case y169 => (intro wx hSw; have hc8 : wx.cell? ⟨w.heap.size, 8, none⟩ = some (.int .i64 m.2.2.2.2.2.2.2.2) := hSw.c 8 (of_decide_eq_true rfl); go_simp <;> with_reducible rfl)
          simp only [Act.put, List.setIfInBounds_toArray, List.set_cons_zero, List.set_cons_succ]
          refine call_at (i := 9) (by kernel_rfl) rfl (fun K hK => ?_)
          go_simp
          refine (rAdd_any b r14.2 1099511627776 m.1 _ ((f14.alloc _).alloc _).drew).mono ?_
          rintro e w15 ⟨rfl, f15, k15⟩
          generalize e15 : addS r14.2 1099511627776 m.1 = r15 at f15 ⊢
          have E15 : Hid _ := e15
          clear e15
          have K15 : Kept b w w15 := Kept.trans ((K14.al _).al _).drew k15
          have B0_15 : Arr w.heap.size [.int .i64 m.1, .int .i64 m.2.1, .int .i64 m.2.2.1, .int .i64 m.2.2.2.1, .int .i64 m.2.2.2.2.1, .int .i64 m.2.2.2.2.2.1, .int .i64 m.2.2.2.2.2.2.1, .int .i64 m.2.2.2.2.2.2.2.1, .int .i64 m.2.2.2.2.2.2.2.2] w15 := ((B0_14.alloc _).alloc _).drew.kept k15 (by omega)
          have B1_15 : Arr (w.heap.size + 1) [.int .i64 0, .int .i64 0, .int .i64 0, .int .i64 0] w15 := ((B1_14.alloc _).alloc _).drew.kept k15 (by omega)
          have B2_15 : Arr w14.heap.size [.int .i64 0, .int .i64 0, .int .i64 0, .int .i64 0] w15 := ((Arr_at _ _ [.int .i64 0, .int .i64 0, .int .i64 0, .int .i64 0] _ (by simp)).alloc _).drew.kept k15 (by omega)
          have B3_15 : Arr (w14.heap.size + 1) [.int .i64 r12.1, .int .i64 r13.1, .int .i64 r14.1] w15 := (Arr_at _ _ [.int .i64 r12.1, .int .i64 r13.1, .int .i64 r14.1] _ (by simp)).drew.kept k15 (by omega)
          have z15 := B3_15.lies
          clear hHeld
          refine hK.out _ _ B0_15 (fun hHeld => ?_)
          clear hK K K14 f14 B0_14 B1_14 k15
          refine call_at (i := 15) (by kernel_rfl) rfl (fun K hK => ?_)
          go_simp
          refine (rSub_any b r15.2 r15.1 m.2.2.2.2.1 _ f15).mono ?_
          rintro e w16 ⟨rfl, f16, k16⟩
          generalize e16 : subS r15.2 r15.1 m.2.2.2.2.1 = r16 at f16 ⊢
          have E16 : Hid _ := e16
          clear e16
          have K16 : Kept b w w16 := Kept.trans K15 k16
          have B0_16 : Arr w.heap.size [.int .i64 m.1, .int .i64 m.2.1, .int .i64 m.2.2.1, .int .i64 m.2.2.2.1, .int .i64 m.2.2.2.2.1, .int .i64 m.2.2.2.2.2.1, .int .i64 m.2.2.2.2.2.2.1, .int .i64 m.2.2.2.2.2.2.2.1, .int .i64 m.2.2.2.2.2.2.2.2] w16 := B0_15.kept k16 (by omega)
          have B1_16 : Arr (w.heap.size + 1) [.int .i64 0, .int .i64 0, .int .i64 0, .int .i64 0] w16 := B1_15.kept k16 (by omega)
          have B2_16 : Arr w14.heap.size [.int .i64 0, .int .i64 0, .int .i64 0, .int .i64 0] w16 := B2_15.kept k16 (by omega)
          have B3_16 : Arr (w14.heap.size + 1) [.int .i64 r12.1, .int .i64 r13.1, .int .i64 r14.1] w16 := B3_15.kept k16 (by omega)
          have z16 := B3_16.lies
          clear hHeld
          refine hK.out _ _ B0_16 (fun hHeld => ?_)
          clear hK K K15 f15 B0_15 B1_15 B2_15 B3_15 k16
          refine call_at (i := 21) (by kernel_rfl) rfl (fun K hK => ?_)
          go_simp
          refine (rSub_any b r16.2 r16.1 m.2.2.2.2.2.2.2.2 _ f16).mono ?_
          rintro e w17 ⟨rfl, f17, k17⟩
          generalize e17 : subS r16.2 r16.1 m.2.2.2.2.2.2.2.2 = r17 at f17 ⊢
          have E17 : Hid _ := e17
          clear e17
          have K17 : Kept b w w17 := Kept.trans K16 k17
          have B0_17 : Arr w.heap.size [.int .i64 m.1, .int .i64 m.2.1, .int .i64 m.2.2.1, .int .i64 m.2.2.2.1, .int .i64 m.2.2.2.2.1, .int .i64 m.2.2.2.2.2.1, .int .i64 m.2.2.2.2.2.2.1, .int .i64 m.2.2.2.2.2.2.2.1, .int .i64 m.2.2.2.2.2.2.2.2] w17 := B0_16.kept k17 (by omega)
          have B1_17 : Arr (w.heap.size + 1) [.int .i64 0, .int .i64 0, .int .i64 0, .int .i64 0] w17 := B1_16.kept k17 (by omega)
          have B2_17 : Arr w14.heap.size [.int .i64 0, .int .i64 0, .int .i64 0, .int .i64 0] w17 := B2_16.kept k17 (by omega)
          have B3_17 : Arr (w14.heap.size + 1) [.int .i64 r12.1, .int .i64 r13.1, .int .i64 r14.1] w17 := B3_16.kept k17 (by omega)
          have z17 := B3_17.lies
          clear hHeld
          refine hK.out _ _ B0_17 (fun hHeld => ?_)
          clear hK K K16 f16 B0_16 B1_16 B2_16 B3_16 k17
          refine take_at (i := 22) (v := ?v170) rfl (by kernel_rfl) (by kernel_rfl) (by kernel_rfl) (fun _ _ _ h => h) (Or.inl ⟨by rfl, ?y170⟩) hHeld ?t170
          case y170 => (intro wx hSw; go_simp <;> with_reducible rfl)
          simp only [Act.put, List.setIfInBounds_toArray, List.set_cons_zero, List.set_cons_succ]
          refine call_at (i := 23) (by kernel_rfl) rfl (fun K hK => ?_)
          have c29_B2_0 : w17.cell? ⟨w14.heap.size, 0, none⟩ = some (.int .i64 0) := B2_17.c 0 (of_decide_eq_true rfl)
          have g29_B2_0 := B2_17.f 0 (of_decide_eq_true rfl)
          go_simp
          clear hHeld
          refine hK.out _ _ (B0_17.new w14.heap.size 0 (by omega) (.int .i64 r17.1)) (fun hHeld => ?_)
          clear hK K c29_B2_0 g29_B2_0
          refine wpAnyH_done (by kernel_rfl) ?_ _
          clear hHeld
          go_wp2_with fail
          refine wp_region_held_drew (S := fun w' => Arr w.heap.size [.int .i64 m.1, .int .i64 m.2.1, .int .i64 m.2.2.1, .int .i64 m.2.2.2.1, .int .i64 m.2.2.2.2.1, .int .i64 m.2.2.2.2.2.1, .int .i64 m.2.2.2.2.2.2.1, .int .i64 m.2.2.2.2.2.2.2.1, .int .i64 m.2.2.2.2.2.2.2.2] w') (by kernel_rfl) (B0_17.new w14.heap.size 0 (by omega) (.int .i64 r17.1)).drew (fun hHeld => ?_)
          refine take_at (i := 0) (v := ?v171) rfl (by kernel_rfl) (by kernel_rfl) (by kernel_rfl) (fun _ _ _ h => h) (Or.inl ⟨by rfl, ?y171⟩) hHeld ?t171
          case y171 => (intro wx hSw; go_simp <;> with_reducible rfl)
          simp only [Act.put, List.setIfInBounds_toArray, List.set_cons_zero, List.set_cons_succ]
          refine take_at (i := 1) (v := ?v172) rfl (by kernel_rfl) (by kernel_rfl) (by kernel_rfl) (fun _ _ _ h => h) (Or.inl ⟨by rfl, ?y172⟩) hHeld ?t172
          case y172 => (intro wx hSw; go_simp <;> with_reducible rfl)
          simp only [Act.put, List.setIfInBounds_toArray, List.set_cons_zero, List.set_cons_succ]
          refine take_at (i := 2) (v := ?v173) rfl (by kernel_rfl) (by kernel_rfl) (by kernel_rfl) (fun _ _ _ h => h) (Or.inl ⟨by rfl, ?y173⟩) hHeld ?t173
          case y173 => (intro wx hSw; go_simp <;> with_reducible rfl)
          simp only [Act.put, List.setIfInBounds_toArray, List.set_cons_zero, List.set_cons_succ]
          refine take_at (i := 3) (v := ?v174) rfl (by kernel_rfl) (by kernel_rfl) (by kernel_rfl) (fun _ _ _ h => h) (Or.inl ⟨by rfl, ?y174⟩) hHeld ?t174
          case y174 => (intro wx hSw; go_simp <;> with_reducible rfl)
          simp only [Act.put, List.setIfInBounds_toArray, List.set_cons_zero, List.set_cons_succ]
          refine take_at (i := 4) (v := ?v175) rfl (by kernel_rfl) (by kernel_rfl) (by kernel_rfl) (fun _ _ _ h => h) (Or.inl ⟨by rfl, ?y175⟩) hHeld ?t175
          case y175 => (intro wx hSw; go_simp <;> with_reducible rfl)
          simp only [Act.put, List.setIfInBounds_toArray, List.set_cons_zero, List.set_cons_succ]
          refine take_at (i := 5) (v := ?v176) rfl (by kernel_rfl) (by kernel_rfl) (by kernel_rfl) (fun _ _ _ h => h) (Or.inl ⟨by rfl, ?y176⟩) hHeld ?t176
          case y176 => (intro wx hSw; go_simp <;> with_reducible rfl)
          simp only [Act.put, List.setIfInBounds_toArray, List.set_cons_zero, List.set_cons_succ]
          refine take_at (i := 6) (v := ?v177) rfl (by kernel_rfl) (by kernel_rfl) (by kernel_rfl) (fun _ _ _ h => h) (Or.inl ⟨by rfl, ?y177⟩) hHeld ?t177
          case y177 => (intro wx hSw; have hc1 : wx.cell? ⟨w.heap.size, 1, none⟩ = some (.int .i64 m.2.1) := hSw.c 1 (of_decide_eq_true rfl); go_simp <;> with_reducible rfl)
          simp only [Act.put, List.setIfInBounds_toArray, List.set_cons_zero, List.set_cons_succ]
          refine take_at (i := 7) (v := ?v178) rfl (by kernel_rfl) (by kernel_rfl) (by kernel_rfl) (fun _ _ _ h => h) (Or.inl ⟨by rfl, ?y178⟩) hHeld ?t178
          case y178 => (intro wx hSw; go_simp <;> with_reducible rfl)
          simp only [Act.put, List.setIfInBounds_toArray, List.set_cons_zero, List.set_cons_succ]
          refine take_at (i := 8) (v := ?v179) rfl (by kernel_rfl) (by kernel_rfl) (by kernel_rfl) (fun _ _ _ h => h) (Or.inl ⟨by rfl, ?y179⟩) hHeld ?t179
          case y179 => (intro wx hSw; go_simp <;> with_reducible rfl)
          simp only [Act.put, List.setIfInBounds_toArray, List.set_cons_zero, List.set_cons_succ]
          refine take_at (i := 9) (v := ?v180) rfl (by kernel_rfl) (by kernel_rfl) (by kernel_rfl) (fun _ _ _ h => h) (Or.inl ⟨by rfl, ?y180⟩) hHeld ?t180
          case y180 => (intro wx hSw; go_simp <;> with_reducible rfl)
          simp only [Act.put, List.setIfInBounds_toArray, List.set_cons_zero, List.set_cons_succ]
          refine take_at (i := 10) (v := ?v181) rfl (by kernel_rfl) (by kernel_rfl) (by kernel_rfl) (fun _ _ _ h => h) (Or.inl ⟨by rfl, ?y181⟩) hHeld ?t181
          case y181 => (intro wx hSw; go_simp <;> with_reducible rfl)
          simp only [Act.put, List.setIfInBounds_toArray, List.set_cons_zero, List.set_cons_succ]
          refine take_at (i := 11) (v := ?v182) rfl (by kernel_rfl) (by kernel_rfl) (by kernel_rfl) (fun _ _ _ h => h) (Or.inl ⟨by rfl, ?y182⟩) hHeld ?t182
          case y182 => (intro wx hSw; have hc3 : wx.cell? ⟨w.heap.size, 3, none⟩ = some (.int .i64 m.2.2.2.1) := hSw.c 3 (of_decide_eq_true rfl); go_simp <;> with_reducible rfl)
          simp only [Act.put, List.setIfInBounds_toArray, List.set_cons_zero, List.set_cons_succ]
          refine call_at (i := 12) (by kernel_rfl) rfl (fun K hK => ?_)
          go_simp
          refine (rAdd_any b r17.2 m.2.1 m.2.2.2.1 _ (f17.new w14.heap.size 0 (by omega) (.int .i64 r17.1)).drew).mono ?_
          rintro e w18 ⟨rfl, f18, k18⟩
          generalize e18 : addS r17.2 m.2.1 m.2.2.2.1 = r18 at f18 ⊢
          have E18 : Hid _ := e18
          clear e18
          have K18 : Kept b w w18 := Kept.trans (K17.new _ _ (by omega) _).drew k18
          have B0_18 : Arr w.heap.size [.int .i64 m.1, .int .i64 m.2.1, .int .i64 m.2.2.1, .int .i64 m.2.2.2.1, .int .i64 m.2.2.2.2.1, .int .i64 m.2.2.2.2.2.1, .int .i64 m.2.2.2.2.2.2.1, .int .i64 m.2.2.2.2.2.2.2.1, .int .i64 m.2.2.2.2.2.2.2.2] w18 := (B0_17.new w14.heap.size 0 (by omega) (.int .i64 r17.1)).drew.kept k18 (by omega)
          have B1_18 : Arr (w.heap.size + 1) [.int .i64 0, .int .i64 0, .int .i64 0, .int .i64 0] w18 := (B1_17.new w14.heap.size 0 (by omega) (.int .i64 r17.1)).drew.kept k18 (by omega)
          have B2_18 : Arr w14.heap.size [.int .i64 r17.1, .int .i64 0, .int .i64 0, .int .i64 0] w18 := (B2_17.put 0 (of_decide_eq_true rfl) (.int .i64 r17.1) [.int .i64 r17.1, .int .i64 0, .int .i64 0, .int .i64 0] rfl).drew.kept k18 (by omega)
          have B3_18 : Arr (w14.heap.size + 1) [.int .i64 r12.1, .int .i64 r13.1, .int .i64 r14.1] w18 := (B3_17.new w14.heap.size 0 (by omega) (.int .i64 r17.1)).drew.kept k18 (by omega)
          have z18 := B3_18.lies
          clear hHeld
          refine hK.out _ _ B0_18 (fun hHeld => ?_)
          clear hK K K17 f17 B0_17 B1_17 B2_17 B3_17 k18
          refine take_at (i := 13) (v := ?v183) rfl (by kernel_rfl) (by kernel_rfl) (by kernel_rfl) (fun _ _ _ h => h) (Or.inl ⟨by rfl, ?y183⟩) hHeld ?t183
          case y183 => (intro wx hSw; go_simp <;> with_reducible rfl)
          simp only [Act.put, List.setIfInBounds_toArray, List.set_cons_zero, List.set_cons_succ]
          refine call_at (i := 14) (by kernel_rfl) rfl (fun K hK => ?_)
          have c31_B2_1 : w18.cell? ⟨w14.heap.size, 1, none⟩ = some (.int .i64 0) := B2_18.c 1 (of_decide_eq_true rfl)
          have g31_B2_1 := B2_18.f 1 (of_decide_eq_true rfl)
          go_simp
          clear hHeld
          refine hK.out _ _ (B0_18.new w14.heap.size 1 (by omega) (.int .i64 r18.1)) (fun hHeld => ?_)
          clear hK K c31_B2_1 g31_B2_1
          refine wpAnyH_done (by kernel_rfl) ?_ _
          clear hHeld
          go_wp2_with fail
          refine wp_region_held_drew (S := fun w' => Arr w.heap.size [.int .i64 m.1, .int .i64 m.2.1, .int .i64 m.2.2.1, .int .i64 m.2.2.2.1, .int .i64 m.2.2.2.2.1, .int .i64 m.2.2.2.2.2.1, .int .i64 m.2.2.2.2.2.2.1, .int .i64 m.2.2.2.2.2.2.2.1, .int .i64 m.2.2.2.2.2.2.2.2] w') (by kernel_rfl) (B0_18.new w14.heap.size 1 (by omega) (.int .i64 r18.1)).drew (fun hHeld => ?_)
          refine take_at (i := 0) (v := ?v184) rfl (by kernel_rfl) (by kernel_rfl) (by kernel_rfl) (fun _ _ _ h => h) (Or.inl ⟨by rfl, ?y184⟩) hHeld ?t184
          case y184 => (intro wx hSw; go_simp <;> with_reducible rfl)
          simp only [Act.put, List.setIfInBounds_toArray, List.set_cons_zero, List.set_cons_succ]
          refine take_at (i := 1) (v := ?v185) rfl (by kernel_rfl) (by kernel_rfl) (by kernel_rfl) (fun _ _ _ h => h) (Or.inl ⟨by rfl, ?y185⟩) hHeld ?t185
          case y185 => (intro wx hSw; go_simp <;> with_reducible rfl)
          simp only [Act.put, List.setIfInBounds_toArray, List.set_cons_zero, List.set_cons_succ]
          refine take_at (i := 2) (v := ?v186) rfl (by kernel_rfl) (by kernel_rfl) (by kernel_rfl) (fun _ _ _ h => h) (Or.inl ⟨by rfl, ?y186⟩) hHeld ?t186
          case y186 => (intro wx hSw; go_simp <;> with_reducible rfl)
          simp only [Act.put, List.setIfInBounds_toArray, List.set_cons_zero, List.set_cons_succ]
          refine take_at (i := 3) (v := ?v187) rfl (by kernel_rfl) (by kernel_rfl) (by kernel_rfl) (fun _ _ _ h => h) (Or.inl ⟨by rfl, ?y187⟩) hHeld ?t187
          case y187 => (intro wx hSw; go_simp <;> with_reducible rfl)
          simp only [Act.put, List.setIfInBounds_toArray, List.set_cons_zero, List.set_cons_succ]
          refine take_at (i := 4) (v := ?v188) rfl (by kernel_rfl) (by kernel_rfl) (by kernel_rfl) (fun _ _ _ h => h) (Or.inl ⟨by rfl, ?y188⟩) hHeld ?t188
          case y188 => (intro wx hSw; go_simp <;> with_reducible rfl)
          simp only [Act.put, List.setIfInBounds_toArray, List.set_cons_zero, List.set_cons_succ]
          refine take_at (i := 5) (v := ?v189) rfl (by kernel_rfl) (by kernel_rfl) (by kernel_rfl) (fun _ _ _ h => h) (Or.inl ⟨by rfl, ?y189⟩) hHeld ?t189
          case y189 => (intro wx hSw; go_simp <;> with_reducible rfl)
          simp only [Act.put, List.setIfInBounds_toArray, List.set_cons_zero, List.set_cons_succ]
          refine take_at (i := 6) (v := ?v190) rfl (by kernel_rfl) (by kernel_rfl) (by kernel_rfl) (fun _ _ _ h => h) (Or.inl ⟨by rfl, ?y190⟩) hHeld ?t190
          case y190 => (intro wx hSw; have hc2 : wx.cell? ⟨w.heap.size, 2, none⟩ = some (.int .i64 m.2.2.1) := hSw.c 2 (of_decide_eq_true rfl); go_simp <;> with_reducible rfl)
          simp only [Act.put, List.setIfInBounds_toArray, List.set_cons_zero, List.set_cons_succ]
          refine take_at (i := 7) (v := ?v191) rfl (by kernel_rfl) (by kernel_rfl) (by kernel_rfl) (fun _ _ _ h => h) (Or.inl ⟨by rfl, ?y191⟩) hHeld ?t191
          case y191 => (intro wx hSw; go_simp <;> with_reducible rfl)
          simp only [Act.put, List.setIfInBounds_toArray, List.set_cons_zero, List.set_cons_succ]
          refine take_at (i := 8) (v := ?v192) rfl (by kernel_rfl) (by kernel_rfl) (by kernel_rfl) (fun _ _ _ h => h) (Or.inl ⟨by rfl, ?y192⟩) hHeld ?t192
          case y192 => (intro wx hSw; go_simp <;> with_reducible rfl)
          simp only [Act.put, List.setIfInBounds_toArray, List.set_cons_zero, List.set_cons_succ]
          refine take_at (i := 9) (v := ?v193) rfl (by kernel_rfl) (by kernel_rfl) (by kernel_rfl) (fun _ _ _ h => h) (Or.inl ⟨by rfl, ?y193⟩) hHeld ?t193
          case y193 => (intro wx hSw; go_simp <;> with_reducible rfl)
          simp only [Act.put, List.setIfInBounds_toArray, List.set_cons_zero, List.set_cons_succ]
          refine take_at (i := 10) (v := ?v194) rfl (by kernel_rfl) (by kernel_rfl) (by kernel_rfl) (fun _ _ _ h => h) (Or.inl ⟨by rfl, ?y194⟩) hHeld ?t194
          case y194 => (intro wx hSw; go_simp <;> with_reducible rfl)
          simp only [Act.put, List.setIfInBounds_toArray, List.set_cons_zero, List.set_cons_succ]
          refine take_at (i := 11) (v := ?v195) rfl (by kernel_rfl) (by kernel_rfl) (by kernel_rfl) (fun _ _ _ h => h) (Or.inl ⟨by rfl, ?y195⟩) hHeld ?t195
          case y195 => (intro wx hSw; have hc6 : wx.cell? ⟨w.heap.size, 6, none⟩ = some (.int .i64 m.2.2.2.2.2.2.1) := hSw.c 6 (of_decide_eq_true rfl); go_simp <;> with_reducible rfl)
          simp only [Act.put, List.setIfInBounds_toArray, List.set_cons_zero, List.set_cons_succ]
          refine call_at (i := 12) (by kernel_rfl) rfl (fun K hK => ?_)
          go_simp
          refine (rAdd_any b r18.2 m.2.2.1 m.2.2.2.2.2.2.1 _ (f18.new w14.heap.size 1 (by omega) (.int .i64 r18.1)).drew).mono ?_
          rintro e w19 ⟨rfl, f19, k19⟩
          generalize e19 : addS r18.2 m.2.2.1 m.2.2.2.2.2.2.1 = r19 at f19 ⊢
          have E19 : Hid _ := e19
          clear e19
          have K19 : Kept b w w19 := Kept.trans (K18.new _ _ (by omega) _).drew k19
          have B0_19 : Arr w.heap.size [.int .i64 m.1, .int .i64 m.2.1, .int .i64 m.2.2.1, .int .i64 m.2.2.2.1, .int .i64 m.2.2.2.2.1, .int .i64 m.2.2.2.2.2.1, .int .i64 m.2.2.2.2.2.2.1, .int .i64 m.2.2.2.2.2.2.2.1, .int .i64 m.2.2.2.2.2.2.2.2] w19 := (B0_18.new w14.heap.size 1 (by omega) (.int .i64 r18.1)).drew.kept k19 (by omega)
          have B1_19 : Arr (w.heap.size + 1) [.int .i64 0, .int .i64 0, .int .i64 0, .int .i64 0] w19 := (B1_18.new w14.heap.size 1 (by omega) (.int .i64 r18.1)).drew.kept k19 (by omega)
          have B2_19 : Arr w14.heap.size [.int .i64 r17.1, .int .i64 r18.1, .int .i64 0, .int .i64 0] w19 := (B2_18.put 1 (of_decide_eq_true rfl) (.int .i64 r18.1) [.int .i64 r17.1, .int .i64 r18.1, .int .i64 0, .int .i64 0] rfl).drew.kept k19 (by omega)
          have B3_19 : Arr (w14.heap.size + 1) [.int .i64 r12.1, .int .i64 r13.1, .int .i64 r14.1] w19 := (B3_18.new w14.heap.size 1 (by omega) (.int .i64 r18.1)).drew.kept k19 (by omega)
          have z19 := B3_19.lies
          clear hHeld
          refine hK.out _ _ B0_19 (fun hHeld => ?_)
          clear hK K K18 f18 B0_18 B1_18 B2_18 B3_18 k19
          refine take_at (i := 13) (v := ?v196) rfl (by kernel_rfl) (by kernel_rfl) (by kernel_rfl) (fun _ _ _ h => h) (Or.inl ⟨by rfl, ?y196⟩) hHeld ?t196
          case y196 => (intro wx hSw; go_simp <;> with_reducible rfl)
          simp only [Act.put, List.setIfInBounds_toArray, List.set_cons_zero, List.set_cons_succ]
          refine call_at (i := 14) (by kernel_rfl) rfl (fun K hK => ?_)
          have c33_B2_2 : w19.cell? ⟨w14.heap.size, 2, none⟩ = some (.int .i64 0) := B2_19.c 2 (of_decide_eq_true rfl)
          have g33_B2_2 := B2_19.f 2 (of_decide_eq_true rfl)
          go_simp
          clear hHeld
          refine hK.out _ _ (B0_19.new w14.heap.size 2 (by omega) (.int .i64 r19.1)) (fun hHeld => ?_)
          clear hK K c33_B2_2 g33_B2_2
          refine wpAnyH_done (by kernel_rfl) ?_ _
          clear hHeld
          have c34_B2_0 : w19.cell? ⟨w14.heap.size, 0, none⟩ = some (.int .i64 r17.1) := B2_19.c 0 (of_decide_eq_true rfl)
          have c34_B2_1 : w19.cell? ⟨w14.heap.size, 1, none⟩ = some (.int .i64 r18.1) := B2_19.c 1 (of_decide_eq_true rfl)
          have c34_B2_2 : w19.cell? ⟨w14.heap.size, 2, none⟩ = some (.int .i64 0) := B2_19.c 2 (of_decide_eq_true rfl)
          have c34_B2_3 : w19.cell? ⟨w14.heap.size, 3, none⟩ = some (.int .i64 0) := B2_19.c 3 (of_decide_eq_true rfl)
          have c34_B3_0 : w19.cell? ⟨w14.heap.size + 1, 0, none⟩ = some (.int .i64 r12.1) := B3_19.c 0 (of_decide_eq_true rfl)
          have g34_B2_3 := B2_19.f 3 (of_decide_eq_true rfl)
          go_wp2_with fail
          refine (xUnit_any b r19.2 (r17.1, r18.1, r19.1, r12.1) _ ((f19.new w14.heap.size 2 (by omega) (.int .i64 r19.1)).new w14.heap.size 3 (by omega) (.int .i64 r12.1))).mono ?_
          rintro e w20 ⟨rfl, f20, k20⟩
          generalize e20 : xUnitS r19.2 (r17.1, r18.1, r19.1, r12.1) = r20 at f20 ⊢
          have E20 : Hid _ := e20
          clear e20
          have K20 : Kept b w w20 := Kept.trans ((K19.new _ _ (by omega) _).new _ _ (by omega) _) k20
          have B0_20 : Arr w.heap.size [.int .i64 m.1, .int .i64 m.2.1, .int .i64 m.2.2.1, .int .i64 m.2.2.2.1, .int .i64 m.2.2.2.2.1, .int .i64 m.2.2.2.2.2.1, .int .i64 m.2.2.2.2.2.2.1, .int .i64 m.2.2.2.2.2.2.2.1, .int .i64 m.2.2.2.2.2.2.2.2] w20 := ((B0_19.new w14.heap.size 2 (by omega) (.int .i64 r19.1)).new w14.heap.size 3 (by omega) (.int .i64 r12.1)).kept k20 (by omega)
          have B1_20 : Arr (w.heap.size + 1) [.int .i64 0, .int .i64 0, .int .i64 0, .int .i64 0] w20 := ((B1_19.new w14.heap.size 2 (by omega) (.int .i64 r19.1)).new w14.heap.size 3 (by omega) (.int .i64 r12.1)).kept k20 (by omega)
          have B2_20 : Arr w14.heap.size [.int .i64 r17.1, .int .i64 r18.1, .int .i64 r19.1, .int .i64 r12.1] w20 := ((B2_19.put 2 (of_decide_eq_true rfl) (.int .i64 r19.1) [.int .i64 r17.1, .int .i64 r18.1, .int .i64 r19.1, .int .i64 0] rfl).put 3 (of_decide_eq_true rfl) (.int .i64 r12.1) [.int .i64 r17.1, .int .i64 r18.1, .int .i64 r19.1, .int .i64 r12.1] rfl).kept k20 (by omega)
          have B3_20 : Arr (w14.heap.size + 1) [.int .i64 r12.1, .int .i64 r13.1, .int .i64 r14.1] w20 := ((B3_19.new w14.heap.size 2 (by omega) (.int .i64 r19.1)).new w14.heap.size 3 (by omega) (.int .i64 r12.1)).kept k20 (by omega)
          have z20 := B3_20.lies
          clear c34_B2_0 c34_B2_1 c34_B2_2 c34_B2_3 c34_B3_0 g34_B2_3 K19 f19 B0_19 B1_19 B2_19 B3_19 k20
          have c35_B1_0 : w20.cell? ⟨w.heap.size + 1, 0, none⟩ = some (.int .i64 0) := B1_20.c 0 (of_decide_eq_true rfl)
          have c35_B1_1 : w20.cell? ⟨w.heap.size + 1, 1, none⟩ = some (.int .i64 0) := B1_20.c 1 (of_decide_eq_true rfl)
          have c35_B1_2 : w20.cell? ⟨w.heap.size + 1, 2, none⟩ = some (.int .i64 0) := B1_20.c 2 (of_decide_eq_true rfl)
          have c35_B1_3 : w20.cell? ⟨w.heap.size + 1, 3, none⟩ = some (.int .i64 0) := B1_20.c 3 (of_decide_eq_true rfl)
          have g35_B1_0 := B1_20.f 0 (of_decide_eq_true rfl)
          have g35_B1_1 := B1_20.f 1 (of_decide_eq_true rfl)
          have g35_B1_2 := B1_20.f 2 (of_decide_eq_true rfl)
          have g35_B1_3 := B1_20.f 3 (of_decide_eq_true rfl)
          go_wp2_with (with_reducible refine post_stop ?_)
          refine Stop.mk ?_
          clear c35_B1_0 c35_B1_1 c35_B1_2 c35_B1_3 g35_B1_0 g35_B1_1 g35_B1_2 g35_B1_3
          refine bodyPost_ret (v := .agg #[.int .i64 r20.1.1, .int .i64 r20.1.2.1, .int .i64 r20.1.2.2.1, .int .i64 r20.1.2.2.2]) (results_arr Try.results29 ((((B1_20.put 0 (of_decide_eq_true rfl) (.int .i64 r20.1.1) [.int .i64 r20.1.1, .int .i64 0, .int .i64 0, .int .i64 0] rfl).put 1 (of_decide_eq_true rfl) (.int .i64 r20.1.2.1) [.int .i64 r20.1.1, .int .i64 r20.1.2.1, .int .i64 0, .int .i64 0] rfl).put 2 (of_decide_eq_true rfl) (.int .i64 r20.1.2.2.1) [.int .i64 r20.1.1, .int .i64 r20.1.2.1, .int .i64 r20.1.2.2.1, .int .i64 0] rfl).put 3 (of_decide_eq_true rfl) (.int .i64 r20.1.2.2.2) [.int .i64 r20.1.1, .int .i64 r20.1.2.1, .int .i64 r20.1.2.2.1, .int .i64 r20.1.2.2.2] rfl) rfl (by kernel_rfl) (by kernel_rfl)) rfl ?_
          have hs : xFromMatrixS bad m = (r20.1, r20.2) := by unfold xFromMatrixS; simp only [E1.out, E2.out, E3.out, E4.out, E5.out, E6.out, E7.out, E8.out, E9.out, E10.out, E11.out, E12.out, E13.out, E14.out, E15.out, E16.out, E17.out, E18.out, E19.out, E20.out]; rw [if_neg (by rw [Hhc1.out]; decide)]; rw [if_pos (by have := Hhc2.out; omega)]; rw [if_neg (by have := Hhc3.out; omega)]; rw [if_neg (by have := Hhc4.out; omega)]
          rw [hs]
          exact ⟨rfl, ((((f20.new (w.heap.size + 1) 0 (by omega) (.int .i64 r20.1.1)).new (w.heap.size + 1) 1 (by omega) (.int .i64 r20.1.2.1)).new (w.heap.size + 1) 2 (by omega) (.int .i64 r20.1.2.2.1)).new (w.heap.size + 1) 3 (by omega) (.int .i64 r20.1.2.2.2)), ((((K20.new _ _ (by omega) _).new _ _ (by omega) _).new _ _ (by omega) _).new _ _ (by omega) _)⟩
    · have Hhc2 : Hid (¬ m.1 > r2.1) := hc2
      have c22_B0_0 : w11.cell? ⟨w.heap.size, 0, none⟩ = some (.int .i64 m.1) := B0_11.c 0 (of_decide_eq_true rfl)
      go_wp2_with fail
      clear c22_B0_0
      rw [rounds_succ]
      by_cases hc3 : m.2.2.2.2.1 > r2.1
      · have Hhc3 : Hid (m.2.2.2.2.1 > r2.1) := hc3
        have c23_B0_4 : w11.cell? ⟨w.heap.size, 4, none⟩ = some (.int .i64 m.2.2.2.2.1) := B0_11.c 4 (of_decide_eq_true rfl)
        go_wp2_with fail
        clear c23_B0_4
        rw [rounds_succ]
        by_cases hc4 : m.2.2.2.2.2.2.2.2 > m.2.2.2.2.1
        · have Hhc4 : Hid (m.2.2.2.2.2.2.2.2 > m.2.2.2.2.1) := hc4
          have c24_B0_8 : w11.cell? ⟨w.heap.size, 8, none⟩ = some (.int .i64 m.2.2.2.2.2.2.2.2) := B0_11.c 8 (of_decide_eq_true rfl)
          go_wp2_with fail
          clear c24_B0_8
          rw [rounds_succ]
          have c25_B0_5 : w11.cell? ⟨w.heap.size, 5, none⟩ = some (.int .i64 m.2.2.2.2.2.1) := B0_11.c 5 (of_decide_eq_true rfl)
          have c25_B0_7 : w11.cell? ⟨w.heap.size, 7, none⟩ = some (.int .i64 m.2.2.2.2.2.2.2.1) := B0_11.c 7 (of_decide_eq_true rfl)
          go_wp2_with fail
          refine (rSub_any b r11.2 m.2.2.2.2.2.1 m.2.2.2.2.2.2.2.1 _ f11).mono ?_
          rintro e w12 ⟨rfl, f12, k12⟩
          generalize e12 : subS r11.2 m.2.2.2.2.2.1 m.2.2.2.2.2.2.2.1 = r12 at f12 ⊢
          have E12 : Hid _ := e12
          clear e12
          have K12 : Kept b w w12 := Kept.trans K11 k12
          have B0_12 : Arr w.heap.size [.int .i64 m.1, .int .i64 m.2.1, .int .i64 m.2.2.1, .int .i64 m.2.2.2.1, .int .i64 m.2.2.2.2.1, .int .i64 m.2.2.2.2.2.1, .int .i64 m.2.2.2.2.2.2.1, .int .i64 m.2.2.2.2.2.2.2.1, .int .i64 m.2.2.2.2.2.2.2.2] w12 := B0_11.kept k12 (by omega)
          have B1_12 : Arr (w.heap.size + 1) [.int .i64 0, .int .i64 0, .int .i64 0, .int .i64 0] w12 := B1_11.kept k12 (by omega)
          have z12 := B1_12.lies
          clear c25_B0_5 c25_B0_7 K11 f11 B0_11 B1_11 k12
          have c26_B0_2 : w12.cell? ⟨w.heap.size, 2, none⟩ = some (.int .i64 m.2.2.1) := B0_12.c 2 (of_decide_eq_true rfl)
          have c26_B0_6 : w12.cell? ⟨w.heap.size, 6, none⟩ = some (.int .i64 m.2.2.2.2.2.2.1) := B0_12.c 6 (of_decide_eq_true rfl)
          go_wp2_with fail
          refine (rSub_any b r12.2 m.2.2.2.2.2.2.1 m.2.2.1 _ f12).mono ?_
          rintro e w13 ⟨rfl, f13, k13⟩
          generalize e13 : subS r12.2 m.2.2.2.2.2.2.1 m.2.2.1 = r13 at f13 ⊢
          have E13 : Hid _ := e13
          clear e13
          have K13 : Kept b w w13 := Kept.trans K12 k13
          have B0_13 : Arr w.heap.size [.int .i64 m.1, .int .i64 m.2.1, .int .i64 m.2.2.1, .int .i64 m.2.2.2.1, .int .i64 m.2.2.2.2.1, .int .i64 m.2.2.2.2.2.1, .int .i64 m.2.2.2.2.2.2.1, .int .i64 m.2.2.2.2.2.2.2.1, .int .i64 m.2.2.2.2.2.2.2.2] w13 := B0_12.kept k13 (by omega)
          have B1_13 : Arr (w.heap.size + 1) [.int .i64 0, .int .i64 0, .int .i64 0, .int .i64 0] w13 := B1_12.kept k13 (by omega)
          have z13 := B1_13.lies
          clear c26_B0_2 c26_B0_6 K12 f12 B0_12 B1_12 k13
          have c27_B0_1 : w13.cell? ⟨w.heap.size, 1, none⟩ = some (.int .i64 m.2.1) := B0_13.c 1 (of_decide_eq_true rfl)
          have c27_B0_3 : w13.cell? ⟨w.heap.size, 3, none⟩ = some (.int .i64 m.2.2.2.1) := B0_13.c 3 (of_decide_eq_true rfl)
          go_wp2_with fail
          refine (rSub_any b r13.2 m.2.1 m.2.2.2.1 _ f13).mono ?_
          rintro e w14 ⟨rfl, f14, k14⟩
          generalize e14 : subS r13.2 m.2.1 m.2.2.2.1 = r14 at f14 ⊢
          have E14 : Hid _ := e14
          clear e14
          have K14 : Kept b w w14 := Kept.trans K13 k14
          have B0_14 : Arr w.heap.size [.int .i64 m.1, .int .i64 m.2.1, .int .i64 m.2.2.1, .int .i64 m.2.2.2.1, .int .i64 m.2.2.2.2.1, .int .i64 m.2.2.2.2.2.1, .int .i64 m.2.2.2.2.2.2.1, .int .i64 m.2.2.2.2.2.2.2.1, .int .i64 m.2.2.2.2.2.2.2.2] w14 := B0_13.kept k14 (by omega)
          have B1_14 : Arr (w.heap.size + 1) [.int .i64 0, .int .i64 0, .int .i64 0, .int .i64 0] w14 := B1_13.kept k14 (by omega)
          have z14 := B1_14.lies
          clear c27_B0_1 c27_B0_3 K13 f13 B0_13 B1_13 k14
          go_wp2_with fail
          refine wp_region_held_drew (S := fun w' => Arr w.heap.size [.int .i64 m.1, .int .i64 m.2.1, .int .i64 m.2.2.1, .int .i64 m.2.2.2.1, .int .i64 m.2.2.2.2.1, .int .i64 m.2.2.2.2.2.1, .int .i64 m.2.2.2.2.2.2.1, .int .i64 m.2.2.2.2.2.2.2.1, .int .i64 m.2.2.2.2.2.2.2.2] w') (by kernel_rfl) ((B0_14.alloc _).alloc _).drew (fun hHeld => ?_)
          refine take_at (i := 0) (v := ?v197) rfl (by kernel_rfl) (by kernel_rfl) (by kernel_rfl) (fun _ _ _ h => h) (Or.inl ⟨by rfl, ?y197⟩) hHeld ?t197
          case y197 => (intro wx hSw; go_simp <;> with_reducible rfl)
          simp only [Act.put, List.setIfInBounds_toArray, List.set_cons_zero, List.set_cons_succ]
          refine take_at (i := 1) (v := ?v198) rfl (by kernel_rfl) (by kernel_rfl) (by kernel_rfl) (fun _ _ _ h => h) (Or.inl ⟨by rfl, ?y198⟩) hHeld ?t198
          case y198 => (intro wx hSw; go_simp <;> with_reducible rfl)
          simp only [Act.put, List.setIfInBounds_toArray, List.set_cons_zero, List.set_cons_succ]
          refine take_at (i := 2) (v := ?v199) rfl (by kernel_rfl) (by kernel_rfl) (by kernel_rfl) (fun _ _ _ h => h) (Or.inl ⟨by rfl, ?y199⟩) hHeld ?t199
          case y199 => (intro wx hSw; go_simp <;> with_reducible rfl)
          simp only [Act.put, List.setIfInBounds_toArray, List.set_cons_zero, List.set_cons_succ]
          refine take_at (i := 3) (v := ?v200) rfl (by kernel_rfl) (by kernel_rfl) (by kernel_rfl) (fun _ _ _ h => h) (Or.inl ⟨by rfl, ?y200⟩) hHeld ?t200
          case y200 => (intro wx hSw; go_simp <;> with_reducible rfl)
          simp only [Act.put, List.setIfInBounds_toArray, List.set_cons_zero, List.set_cons_succ]
          refine take_at (i := 4) (v := ?v201) rfl (by kernel_rfl) (by kernel_rfl) (by kernel_rfl) (fun _ _ _ h => h) (Or.inl ⟨by rfl, ?y201⟩) hHeld ?t201
          case y201 => (intro wx hSw; go_simp <;> with_reducible rfl)
          simp only [Act.put, List.setIfInBounds_toArray, List.set_cons_zero, List.set_cons_succ]
          refine take_at (i := 5) (v := ?v202) rfl (by kernel_rfl) (by kernel_rfl) (by kernel_rfl) (fun _ _ _ h => h) (Or.inl ⟨by rfl, ?y202⟩) hHeld ?t202
          case y202 => (intro wx hSw; go_simp <;> with_reducible rfl)
          simp only [Act.put, List.setIfInBounds_toArray, List.set_cons_zero, List.set_cons_succ]
          refine take_at (i := 6) (v := ?v203) rfl (by kernel_rfl) (by kernel_rfl) (by kernel_rfl) (fun _ _ _ h => h) (Or.inl ⟨by rfl, ?y203⟩) hHeld ?t203
          case y203 => (intro wx hSw; go_simp <;> with_reducible rfl)
          simp only [Act.put, List.setIfInBounds_toArray, List.set_cons_zero, List.set_cons_succ]
          refine take_at (i := 7) (v := ?v204) rfl (by kernel_rfl) (by kernel_rfl) (by kernel_rfl) (fun _ _ _ h => h) (Or.inl ⟨by rfl, ?y204⟩) hHeld ?t204
          case y204 => (intro wx hSw; go_simp <;> with_reducible rfl)
          simp only [Act.put, List.setIfInBounds_toArray, List.set_cons_zero, List.set_cons_succ]
          refine take_at (i := 8) (v := ?v205) rfl (by kernel_rfl) (by kernel_rfl) (by kernel_rfl) (fun _ _ _ h => h) (Or.inl ⟨by rfl, ?y205⟩) hHeld ?t205
          case y205 => (intro wx hSw; have hc8 : wx.cell? ⟨w.heap.size, 8, none⟩ = some (.int .i64 m.2.2.2.2.2.2.2.2) := hSw.c 8 (of_decide_eq_true rfl); go_simp <;> with_reducible rfl)
          simp only [Act.put, List.setIfInBounds_toArray, List.set_cons_zero, List.set_cons_succ]
          refine take_at (i := 10) (v := ?v206) rfl (by kernel_rfl) (by kernel_rfl) (by kernel_rfl) (fun _ _ _ h => h) (Or.inl ⟨by rfl, ?y206⟩) hHeld ?t206
          case y206 => (intro wx hSw; go_simp <;> with_reducible rfl)
          simp only [Act.put, List.setIfInBounds_toArray, List.set_cons_zero, List.set_cons_succ]
          refine take_at (i := 11) (v := ?v207) rfl (by kernel_rfl) (by kernel_rfl) (by kernel_rfl) (fun _ _ _ h => h) (Or.inl ⟨by rfl, ?y207⟩) hHeld ?t207
          case y207 => (intro wx hSw; go_simp <;> with_reducible rfl)
          simp only [Act.put, List.setIfInBounds_toArray, List.set_cons_zero, List.set_cons_succ]
          refine take_at (i := 12) (v := ?v208) rfl (by kernel_rfl) (by kernel_rfl) (by kernel_rfl) (fun _ _ _ h => h) (Or.inl ⟨by rfl, ?y208⟩) hHeld ?t208
          case y208 => (intro wx hSw; go_simp <;> with_reducible rfl)
          simp only [Act.put, List.setIfInBounds_toArray, List.set_cons_zero, List.set_cons_succ]
          refine take_at (i := 13) (v := ?v209) rfl (by kernel_rfl) (by kernel_rfl) (by kernel_rfl) (fun _ _ _ h => h) (Or.inl ⟨by rfl, ?y209⟩) hHeld ?t209
          case y209 => (intro wx hSw; go_simp <;> with_reducible rfl)
          simp only [Act.put, List.setIfInBounds_toArray, List.set_cons_zero, List.set_cons_succ]
          refine take_at (i := 14) (v := ?v210) rfl (by kernel_rfl) (by kernel_rfl) (by kernel_rfl) (fun _ _ _ h => h) (Or.inl ⟨by rfl, ?y210⟩) hHeld ?t210
          case y210 => (intro wx hSw; have hc0 : wx.cell? ⟨w.heap.size, 0, none⟩ = some (.int .i64 m.1) := hSw.c 0 (of_decide_eq_true rfl); go_simp <;> with_reducible rfl)
          simp only [Act.put, List.setIfInBounds_toArray, List.set_cons_zero, List.set_cons_succ]
          refine take_at (i := 16) (v := ?v211) rfl (by kernel_rfl) (by kernel_rfl) (by kernel_rfl) (fun _ _ _ h => h) (Or.inl ⟨by rfl, ?y211⟩) hHeld ?t211
          case y211 => (intro wx hSw; go_simp <;> with_reducible rfl)
          simp only [Act.put, List.setIfInBounds_toArray, List.set_cons_zero, List.set_cons_succ]
          refine take_at (i := 17) (v := ?v212) rfl (by kernel_rfl) (by kernel_rfl) (by kernel_rfl) (fun _ _ _ h => h) (Or.inl ⟨by rfl, ?y212⟩) hHeld ?t212
          case y212 => (intro wx hSw; go_simp <;> with_reducible rfl)
          simp only [Act.put, List.setIfInBounds_toArray, List.set_cons_zero, List.set_cons_succ]
          refine take_at (i := 18) (v := ?v213) rfl (by kernel_rfl) (by kernel_rfl) (by kernel_rfl) (fun _ _ _ h => h) (Or.inl ⟨by rfl, ?y213⟩) hHeld ?t213
          case y213 => (intro wx hSw; go_simp <;> with_reducible rfl)
          simp only [Act.put, List.setIfInBounds_toArray, List.set_cons_zero, List.set_cons_succ]
          refine take_at (i := 19) (v := ?v214) rfl (by kernel_rfl) (by kernel_rfl) (by kernel_rfl) (fun _ _ _ h => h) (Or.inl ⟨by rfl, ?y214⟩) hHeld ?t214
          case y214 => (intro wx hSw; go_simp <;> with_reducible rfl)
          simp only [Act.put, List.setIfInBounds_toArray, List.set_cons_zero, List.set_cons_succ]
          refine take_at (i := 20) (v := ?v215) rfl (by kernel_rfl) (by kernel_rfl) (by kernel_rfl) (fun _ _ _ h => h) (Or.inl ⟨by rfl, ?y215⟩) hHeld ?t215
          case y215 => (intro wx hSw; have hc4 : wx.cell? ⟨w.heap.size, 4, none⟩ = some (.int .i64 m.2.2.2.2.1) := hSw.c 4 (of_decide_eq_true rfl); go_simp <;> with_reducible rfl)
          simp only [Act.put, List.setIfInBounds_toArray, List.set_cons_zero, List.set_cons_succ]
          refine call_at (i := 9) (by kernel_rfl) rfl (fun K hK => ?_)
          go_simp
          refine (rAdd_any b r14.2 1099511627776 m.2.2.2.2.2.2.2.2 _ ((f14.alloc _).alloc _).drew).mono ?_
          rintro e w15 ⟨rfl, f15, k15⟩
          generalize e15 : addS r14.2 1099511627776 m.2.2.2.2.2.2.2.2 = r15 at f15 ⊢
          have E15 : Hid _ := e15
          clear e15
          have K15 : Kept b w w15 := Kept.trans ((K14.al _).al _).drew k15
          have B0_15 : Arr w.heap.size [.int .i64 m.1, .int .i64 m.2.1, .int .i64 m.2.2.1, .int .i64 m.2.2.2.1, .int .i64 m.2.2.2.2.1, .int .i64 m.2.2.2.2.2.1, .int .i64 m.2.2.2.2.2.2.1, .int .i64 m.2.2.2.2.2.2.2.1, .int .i64 m.2.2.2.2.2.2.2.2] w15 := ((B0_14.alloc _).alloc _).drew.kept k15 (by omega)
          have B1_15 : Arr (w.heap.size + 1) [.int .i64 0, .int .i64 0, .int .i64 0, .int .i64 0] w15 := ((B1_14.alloc _).alloc _).drew.kept k15 (by omega)
          have B2_15 : Arr w14.heap.size [.int .i64 0, .int .i64 0, .int .i64 0, .int .i64 0] w15 := ((Arr_at _ _ [.int .i64 0, .int .i64 0, .int .i64 0, .int .i64 0] _ (by simp)).alloc _).drew.kept k15 (by omega)
          have B3_15 : Arr (w14.heap.size + 1) [.int .i64 r12.1, .int .i64 r13.1, .int .i64 r14.1] w15 := (Arr_at _ _ [.int .i64 r12.1, .int .i64 r13.1, .int .i64 r14.1] _ (by simp)).drew.kept k15 (by omega)
          have z15 := B3_15.lies
          clear hHeld
          refine hK.out _ _ B0_15 (fun hHeld => ?_)
          clear hK K K14 f14 B0_14 B1_14 k15
          refine call_at (i := 15) (by kernel_rfl) rfl (fun K hK => ?_)
          go_simp
          refine (rSub_any b r15.2 r15.1 m.1 _ f15).mono ?_
          rintro e w16 ⟨rfl, f16, k16⟩
          generalize e16 : subS r15.2 r15.1 m.1 = r16 at f16 ⊢
          have E16 : Hid _ := e16
          clear e16
          have K16 : Kept b w w16 := Kept.trans K15 k16
          have B0_16 : Arr w.heap.size [.int .i64 m.1, .int .i64 m.2.1, .int .i64 m.2.2.1, .int .i64 m.2.2.2.1, .int .i64 m.2.2.2.2.1, .int .i64 m.2.2.2.2.2.1, .int .i64 m.2.2.2.2.2.2.1, .int .i64 m.2.2.2.2.2.2.2.1, .int .i64 m.2.2.2.2.2.2.2.2] w16 := B0_15.kept k16 (by omega)
          have B1_16 : Arr (w.heap.size + 1) [.int .i64 0, .int .i64 0, .int .i64 0, .int .i64 0] w16 := B1_15.kept k16 (by omega)
          have B2_16 : Arr w14.heap.size [.int .i64 0, .int .i64 0, .int .i64 0, .int .i64 0] w16 := B2_15.kept k16 (by omega)
          have B3_16 : Arr (w14.heap.size + 1) [.int .i64 r12.1, .int .i64 r13.1, .int .i64 r14.1] w16 := B3_15.kept k16 (by omega)
          have z16 := B3_16.lies
          clear hHeld
          refine hK.out _ _ B0_16 (fun hHeld => ?_)
          clear hK K K15 f15 B0_15 B1_15 B2_15 B3_15 k16
          refine call_at (i := 21) (by kernel_rfl) rfl (fun K hK => ?_)
          go_simp
          refine (rSub_any b r16.2 r16.1 m.2.2.2.2.1 _ f16).mono ?_
          rintro e w17 ⟨rfl, f17, k17⟩
          generalize e17 : subS r16.2 r16.1 m.2.2.2.2.1 = r17 at f17 ⊢
          have E17 : Hid _ := e17
          clear e17
          have K17 : Kept b w w17 := Kept.trans K16 k17
          have B0_17 : Arr w.heap.size [.int .i64 m.1, .int .i64 m.2.1, .int .i64 m.2.2.1, .int .i64 m.2.2.2.1, .int .i64 m.2.2.2.2.1, .int .i64 m.2.2.2.2.2.1, .int .i64 m.2.2.2.2.2.2.1, .int .i64 m.2.2.2.2.2.2.2.1, .int .i64 m.2.2.2.2.2.2.2.2] w17 := B0_16.kept k17 (by omega)
          have B1_17 : Arr (w.heap.size + 1) [.int .i64 0, .int .i64 0, .int .i64 0, .int .i64 0] w17 := B1_16.kept k17 (by omega)
          have B2_17 : Arr w14.heap.size [.int .i64 0, .int .i64 0, .int .i64 0, .int .i64 0] w17 := B2_16.kept k17 (by omega)
          have B3_17 : Arr (w14.heap.size + 1) [.int .i64 r12.1, .int .i64 r13.1, .int .i64 r14.1] w17 := B3_16.kept k17 (by omega)
          have z17 := B3_17.lies
          clear hHeld
          refine hK.out _ _ B0_17 (fun hHeld => ?_)
          clear hK K K16 f16 B0_16 B1_16 B2_16 B3_16 k17
          refine take_at (i := 22) (v := ?v216) rfl (by kernel_rfl) (by kernel_rfl) (by kernel_rfl) (fun _ _ _ h => h) (Or.inl ⟨by rfl, ?y216⟩) hHeld ?t216
          case y216 => (intro wx hSw; go_simp <;> with_reducible rfl)
          simp only [Act.put, List.setIfInBounds_toArray, List.set_cons_zero, List.set_cons_succ]
          refine call_at (i := 23) (by kernel_rfl) rfl (fun K hK => ?_)
          have c29_B2_2 : w17.cell? ⟨w14.heap.size, 2, none⟩ = some (.int .i64 0) := B2_17.c 2 (of_decide_eq_true rfl)
          have g29_B2_2 := B2_17.f 2 (of_decide_eq_true rfl)
          go_simp
          clear hHeld
          refine hK.out _ _ (B0_17.new w14.heap.size 2 (by omega) (.int .i64 r17.1)) (fun hHeld => ?_)
          clear hK K c29_B2_2 g29_B2_2
          refine wpAnyH_done (by kernel_rfl) ?_ _
          clear hHeld
          go_wp2_with fail
          refine wp_region_held_drew (S := fun w' => Arr w.heap.size [.int .i64 m.1, .int .i64 m.2.1, .int .i64 m.2.2.1, .int .i64 m.2.2.2.1, .int .i64 m.2.2.2.2.1, .int .i64 m.2.2.2.2.2.1, .int .i64 m.2.2.2.2.2.2.1, .int .i64 m.2.2.2.2.2.2.2.1, .int .i64 m.2.2.2.2.2.2.2.2] w') (by kernel_rfl) (B0_17.new w14.heap.size 2 (by omega) (.int .i64 r17.1)).drew (fun hHeld => ?_)
          refine take_at (i := 0) (v := ?v217) rfl (by kernel_rfl) (by kernel_rfl) (by kernel_rfl) (fun _ _ _ h => h) (Or.inl ⟨by rfl, ?y217⟩) hHeld ?t217
          case y217 => (intro wx hSw; go_simp <;> with_reducible rfl)
          simp only [Act.put, List.setIfInBounds_toArray, List.set_cons_zero, List.set_cons_succ]
          refine take_at (i := 1) (v := ?v218) rfl (by kernel_rfl) (by kernel_rfl) (by kernel_rfl) (fun _ _ _ h => h) (Or.inl ⟨by rfl, ?y218⟩) hHeld ?t218
          case y218 => (intro wx hSw; go_simp <;> with_reducible rfl)
          simp only [Act.put, List.setIfInBounds_toArray, List.set_cons_zero, List.set_cons_succ]
          refine take_at (i := 2) (v := ?v219) rfl (by kernel_rfl) (by kernel_rfl) (by kernel_rfl) (fun _ _ _ h => h) (Or.inl ⟨by rfl, ?y219⟩) hHeld ?t219
          case y219 => (intro wx hSw; go_simp <;> with_reducible rfl)
          simp only [Act.put, List.setIfInBounds_toArray, List.set_cons_zero, List.set_cons_succ]
          refine take_at (i := 3) (v := ?v220) rfl (by kernel_rfl) (by kernel_rfl) (by kernel_rfl) (fun _ _ _ h => h) (Or.inl ⟨by rfl, ?y220⟩) hHeld ?t220
          case y220 => (intro wx hSw; go_simp <;> with_reducible rfl)
          simp only [Act.put, List.setIfInBounds_toArray, List.set_cons_zero, List.set_cons_succ]
          refine take_at (i := 4) (v := ?v221) rfl (by kernel_rfl) (by kernel_rfl) (by kernel_rfl) (fun _ _ _ h => h) (Or.inl ⟨by rfl, ?y221⟩) hHeld ?t221
          case y221 => (intro wx hSw; go_simp <;> with_reducible rfl)
          simp only [Act.put, List.setIfInBounds_toArray, List.set_cons_zero, List.set_cons_succ]
          refine take_at (i := 5) (v := ?v222) rfl (by kernel_rfl) (by kernel_rfl) (by kernel_rfl) (fun _ _ _ h => h) (Or.inl ⟨by rfl, ?y222⟩) hHeld ?t222
          case y222 => (intro wx hSw; go_simp <;> with_reducible rfl)
          simp only [Act.put, List.setIfInBounds_toArray, List.set_cons_zero, List.set_cons_succ]
          refine take_at (i := 6) (v := ?v223) rfl (by kernel_rfl) (by kernel_rfl) (by kernel_rfl) (fun _ _ _ h => h) (Or.inl ⟨by rfl, ?y223⟩) hHeld ?t223
          case y223 => (intro wx hSw; have hc6 : wx.cell? ⟨w.heap.size, 6, none⟩ = some (.int .i64 m.2.2.2.2.2.2.1) := hSw.c 6 (of_decide_eq_true rfl); go_simp <;> with_reducible rfl)
          simp only [Act.put, List.setIfInBounds_toArray, List.set_cons_zero, List.set_cons_succ]
          refine take_at (i := 7) (v := ?v224) rfl (by kernel_rfl) (by kernel_rfl) (by kernel_rfl) (fun _ _ _ h => h) (Or.inl ⟨by rfl, ?y224⟩) hHeld ?t224
          case y224 => (intro wx hSw; go_simp <;> with_reducible rfl)
          simp only [Act.put, List.setIfInBounds_toArray, List.set_cons_zero, List.set_cons_succ]
          refine take_at (i := 8) (v := ?v225) rfl (by kernel_rfl) (by kernel_rfl) (by kernel_rfl) (fun _ _ _ h => h) (Or.inl ⟨by rfl, ?y225⟩) hHeld ?t225
          case y225 => (intro wx hSw; go_simp <;> with_reducible rfl)
          simp only [Act.put, List.setIfInBounds_toArray, List.set_cons_zero, List.set_cons_succ]
          refine take_at (i := 9) (v := ?v226) rfl (by kernel_rfl) (by kernel_rfl) (by kernel_rfl) (fun _ _ _ h => h) (Or.inl ⟨by rfl, ?y226⟩) hHeld ?t226
          case y226 => (intro wx hSw; go_simp <;> with_reducible rfl)
          simp only [Act.put, List.setIfInBounds_toArray, List.set_cons_zero, List.set_cons_succ]
          refine take_at (i := 10) (v := ?v227) rfl (by kernel_rfl) (by kernel_rfl) (by kernel_rfl) (fun _ _ _ h => h) (Or.inl ⟨by rfl, ?y227⟩) hHeld ?t227
          case y227 => (intro wx hSw; go_simp <;> with_reducible rfl)
          simp only [Act.put, List.setIfInBounds_toArray, List.set_cons_zero, List.set_cons_succ]
          refine take_at (i := 11) (v := ?v228) rfl (by kernel_rfl) (by kernel_rfl) (by kernel_rfl) (fun _ _ _ h => h) (Or.inl ⟨by rfl, ?y228⟩) hHeld ?t228
          case y228 => (intro wx hSw; have hc2 : wx.cell? ⟨w.heap.size, 2, none⟩ = some (.int .i64 m.2.2.1) := hSw.c 2 (of_decide_eq_true rfl); go_simp <;> with_reducible rfl)
          simp only [Act.put, List.setIfInBounds_toArray, List.set_cons_zero, List.set_cons_succ]
          refine call_at (i := 12) (by kernel_rfl) rfl (fun K hK => ?_)
          go_simp
          refine (rAdd_any b r17.2 m.2.2.2.2.2.2.1 m.2.2.1 _ (f17.new w14.heap.size 2 (by omega) (.int .i64 r17.1)).drew).mono ?_
          rintro e w18 ⟨rfl, f18, k18⟩
          generalize e18 : addS r17.2 m.2.2.2.2.2.2.1 m.2.2.1 = r18 at f18 ⊢
          have E18 : Hid _ := e18
          clear e18
          have K18 : Kept b w w18 := Kept.trans (K17.new _ _ (by omega) _).drew k18
          have B0_18 : Arr w.heap.size [.int .i64 m.1, .int .i64 m.2.1, .int .i64 m.2.2.1, .int .i64 m.2.2.2.1, .int .i64 m.2.2.2.2.1, .int .i64 m.2.2.2.2.2.1, .int .i64 m.2.2.2.2.2.2.1, .int .i64 m.2.2.2.2.2.2.2.1, .int .i64 m.2.2.2.2.2.2.2.2] w18 := (B0_17.new w14.heap.size 2 (by omega) (.int .i64 r17.1)).drew.kept k18 (by omega)
          have B1_18 : Arr (w.heap.size + 1) [.int .i64 0, .int .i64 0, .int .i64 0, .int .i64 0] w18 := (B1_17.new w14.heap.size 2 (by omega) (.int .i64 r17.1)).drew.kept k18 (by omega)
          have B2_18 : Arr w14.heap.size [.int .i64 0, .int .i64 0, .int .i64 r17.1, .int .i64 0] w18 := (B2_17.put 2 (of_decide_eq_true rfl) (.int .i64 r17.1) [.int .i64 0, .int .i64 0, .int .i64 r17.1, .int .i64 0] rfl).drew.kept k18 (by omega)
          have B3_18 : Arr (w14.heap.size + 1) [.int .i64 r12.1, .int .i64 r13.1, .int .i64 r14.1] w18 := (B3_17.new w14.heap.size 2 (by omega) (.int .i64 r17.1)).drew.kept k18 (by omega)
          have z18 := B3_18.lies
          clear hHeld
          refine hK.out _ _ B0_18 (fun hHeld => ?_)
          clear hK K K17 f17 B0_17 B1_17 B2_17 B3_17 k18
          refine take_at (i := 13) (v := ?v229) rfl (by kernel_rfl) (by kernel_rfl) (by kernel_rfl) (fun _ _ _ h => h) (Or.inl ⟨by rfl, ?y229⟩) hHeld ?t229
          case y229 => (intro wx hSw; go_simp <;> with_reducible rfl)
          simp only [Act.put, List.setIfInBounds_toArray, List.set_cons_zero, List.set_cons_succ]
          refine call_at (i := 14) (by kernel_rfl) rfl (fun K hK => ?_)
          have c31_B2_0 : w18.cell? ⟨w14.heap.size, 0, none⟩ = some (.int .i64 0) := B2_18.c 0 (of_decide_eq_true rfl)
          have g31_B2_0 := B2_18.f 0 (of_decide_eq_true rfl)
          go_simp
          clear hHeld
          refine hK.out _ _ (B0_18.new w14.heap.size 0 (by omega) (.int .i64 r18.1)) (fun hHeld => ?_)
          clear hK K c31_B2_0 g31_B2_0
          refine wpAnyH_done (by kernel_rfl) ?_ _
          clear hHeld
          go_wp2_with fail
          refine wp_region_held_drew (S := fun w' => Arr w.heap.size [.int .i64 m.1, .int .i64 m.2.1, .int .i64 m.2.2.1, .int .i64 m.2.2.2.1, .int .i64 m.2.2.2.2.1, .int .i64 m.2.2.2.2.2.1, .int .i64 m.2.2.2.2.2.2.1, .int .i64 m.2.2.2.2.2.2.2.1, .int .i64 m.2.2.2.2.2.2.2.2] w') (by kernel_rfl) (B0_18.new w14.heap.size 0 (by omega) (.int .i64 r18.1)).drew (fun hHeld => ?_)
          refine take_at (i := 0) (v := ?v230) rfl (by kernel_rfl) (by kernel_rfl) (by kernel_rfl) (fun _ _ _ h => h) (Or.inl ⟨by rfl, ?y230⟩) hHeld ?t230
          case y230 => (intro wx hSw; go_simp <;> with_reducible rfl)
          simp only [Act.put, List.setIfInBounds_toArray, List.set_cons_zero, List.set_cons_succ]
          refine take_at (i := 1) (v := ?v231) rfl (by kernel_rfl) (by kernel_rfl) (by kernel_rfl) (fun _ _ _ h => h) (Or.inl ⟨by rfl, ?y231⟩) hHeld ?t231
          case y231 => (intro wx hSw; go_simp <;> with_reducible rfl)
          simp only [Act.put, List.setIfInBounds_toArray, List.set_cons_zero, List.set_cons_succ]
          refine take_at (i := 2) (v := ?v232) rfl (by kernel_rfl) (by kernel_rfl) (by kernel_rfl) (fun _ _ _ h => h) (Or.inl ⟨by rfl, ?y232⟩) hHeld ?t232
          case y232 => (intro wx hSw; go_simp <;> with_reducible rfl)
          simp only [Act.put, List.setIfInBounds_toArray, List.set_cons_zero, List.set_cons_succ]
          refine take_at (i := 3) (v := ?v233) rfl (by kernel_rfl) (by kernel_rfl) (by kernel_rfl) (fun _ _ _ h => h) (Or.inl ⟨by rfl, ?y233⟩) hHeld ?t233
          case y233 => (intro wx hSw; go_simp <;> with_reducible rfl)
          simp only [Act.put, List.setIfInBounds_toArray, List.set_cons_zero, List.set_cons_succ]
          refine take_at (i := 4) (v := ?v234) rfl (by kernel_rfl) (by kernel_rfl) (by kernel_rfl) (fun _ _ _ h => h) (Or.inl ⟨by rfl, ?y234⟩) hHeld ?t234
          case y234 => (intro wx hSw; go_simp <;> with_reducible rfl)
          simp only [Act.put, List.setIfInBounds_toArray, List.set_cons_zero, List.set_cons_succ]
          refine take_at (i := 5) (v := ?v235) rfl (by kernel_rfl) (by kernel_rfl) (by kernel_rfl) (fun _ _ _ h => h) (Or.inl ⟨by rfl, ?y235⟩) hHeld ?t235
          case y235 => (intro wx hSw; go_simp <;> with_reducible rfl)
          simp only [Act.put, List.setIfInBounds_toArray, List.set_cons_zero, List.set_cons_succ]
          refine take_at (i := 6) (v := ?v236) rfl (by kernel_rfl) (by kernel_rfl) (by kernel_rfl) (fun _ _ _ h => h) (Or.inl ⟨by rfl, ?y236⟩) hHeld ?t236
          case y236 => (intro wx hSw; have hc7 : wx.cell? ⟨w.heap.size, 7, none⟩ = some (.int .i64 m.2.2.2.2.2.2.2.1) := hSw.c 7 (of_decide_eq_true rfl); go_simp <;> with_reducible rfl)
          simp only [Act.put, List.setIfInBounds_toArray, List.set_cons_zero, List.set_cons_succ]
          refine take_at (i := 7) (v := ?v237) rfl (by kernel_rfl) (by kernel_rfl) (by kernel_rfl) (fun _ _ _ h => h) (Or.inl ⟨by rfl, ?y237⟩) hHeld ?t237
          case y237 => (intro wx hSw; go_simp <;> with_reducible rfl)
          simp only [Act.put, List.setIfInBounds_toArray, List.set_cons_zero, List.set_cons_succ]
          refine take_at (i := 8) (v := ?v238) rfl (by kernel_rfl) (by kernel_rfl) (by kernel_rfl) (fun _ _ _ h => h) (Or.inl ⟨by rfl, ?y238⟩) hHeld ?t238
          case y238 => (intro wx hSw; go_simp <;> with_reducible rfl)
          simp only [Act.put, List.setIfInBounds_toArray, List.set_cons_zero, List.set_cons_succ]
          refine take_at (i := 9) (v := ?v239) rfl (by kernel_rfl) (by kernel_rfl) (by kernel_rfl) (fun _ _ _ h => h) (Or.inl ⟨by rfl, ?y239⟩) hHeld ?t239
          case y239 => (intro wx hSw; go_simp <;> with_reducible rfl)
          simp only [Act.put, List.setIfInBounds_toArray, List.set_cons_zero, List.set_cons_succ]
          refine take_at (i := 10) (v := ?v240) rfl (by kernel_rfl) (by kernel_rfl) (by kernel_rfl) (fun _ _ _ h => h) (Or.inl ⟨by rfl, ?y240⟩) hHeld ?t240
          case y240 => (intro wx hSw; go_simp <;> with_reducible rfl)
          simp only [Act.put, List.setIfInBounds_toArray, List.set_cons_zero, List.set_cons_succ]
          refine take_at (i := 11) (v := ?v241) rfl (by kernel_rfl) (by kernel_rfl) (by kernel_rfl) (fun _ _ _ h => h) (Or.inl ⟨by rfl, ?y241⟩) hHeld ?t241
          case y241 => (intro wx hSw; have hc5 : wx.cell? ⟨w.heap.size, 5, none⟩ = some (.int .i64 m.2.2.2.2.2.1) := hSw.c 5 (of_decide_eq_true rfl); go_simp <;> with_reducible rfl)
          simp only [Act.put, List.setIfInBounds_toArray, List.set_cons_zero, List.set_cons_succ]
          refine call_at (i := 12) (by kernel_rfl) rfl (fun K hK => ?_)
          go_simp
          refine (rAdd_any b r18.2 m.2.2.2.2.2.2.2.1 m.2.2.2.2.2.1 _ (f18.new w14.heap.size 0 (by omega) (.int .i64 r18.1)).drew).mono ?_
          rintro e w19 ⟨rfl, f19, k19⟩
          generalize e19 : addS r18.2 m.2.2.2.2.2.2.2.1 m.2.2.2.2.2.1 = r19 at f19 ⊢
          have E19 : Hid _ := e19
          clear e19
          have K19 : Kept b w w19 := Kept.trans (K18.new _ _ (by omega) _).drew k19
          have B0_19 : Arr w.heap.size [.int .i64 m.1, .int .i64 m.2.1, .int .i64 m.2.2.1, .int .i64 m.2.2.2.1, .int .i64 m.2.2.2.2.1, .int .i64 m.2.2.2.2.2.1, .int .i64 m.2.2.2.2.2.2.1, .int .i64 m.2.2.2.2.2.2.2.1, .int .i64 m.2.2.2.2.2.2.2.2] w19 := (B0_18.new w14.heap.size 0 (by omega) (.int .i64 r18.1)).drew.kept k19 (by omega)
          have B1_19 : Arr (w.heap.size + 1) [.int .i64 0, .int .i64 0, .int .i64 0, .int .i64 0] w19 := (B1_18.new w14.heap.size 0 (by omega) (.int .i64 r18.1)).drew.kept k19 (by omega)
          have B2_19 : Arr w14.heap.size [.int .i64 r18.1, .int .i64 0, .int .i64 r17.1, .int .i64 0] w19 := (B2_18.put 0 (of_decide_eq_true rfl) (.int .i64 r18.1) [.int .i64 r18.1, .int .i64 0, .int .i64 r17.1, .int .i64 0] rfl).drew.kept k19 (by omega)
          have B3_19 : Arr (w14.heap.size + 1) [.int .i64 r12.1, .int .i64 r13.1, .int .i64 r14.1] w19 := (B3_18.new w14.heap.size 0 (by omega) (.int .i64 r18.1)).drew.kept k19 (by omega)
          have z19 := B3_19.lies
          clear hHeld
          refine hK.out _ _ B0_19 (fun hHeld => ?_)
          clear hK K K18 f18 B0_18 B1_18 B2_18 B3_18 k19
          refine take_at (i := 13) (v := ?v242) rfl (by kernel_rfl) (by kernel_rfl) (by kernel_rfl) (fun _ _ _ h => h) (Or.inl ⟨by rfl, ?y242⟩) hHeld ?t242
          case y242 => (intro wx hSw; go_simp <;> with_reducible rfl)
          simp only [Act.put, List.setIfInBounds_toArray, List.set_cons_zero, List.set_cons_succ]
          refine call_at (i := 14) (by kernel_rfl) rfl (fun K hK => ?_)
          have c33_B2_1 : w19.cell? ⟨w14.heap.size, 1, none⟩ = some (.int .i64 0) := B2_19.c 1 (of_decide_eq_true rfl)
          have g33_B2_1 := B2_19.f 1 (of_decide_eq_true rfl)
          go_simp
          clear hHeld
          refine hK.out _ _ (B0_19.new w14.heap.size 1 (by omega) (.int .i64 r19.1)) (fun hHeld => ?_)
          clear hK K c33_B2_1 g33_B2_1
          refine wpAnyH_done (by kernel_rfl) ?_ _
          clear hHeld
          have c34_B2_0 : w19.cell? ⟨w14.heap.size, 0, none⟩ = some (.int .i64 r18.1) := B2_19.c 0 (of_decide_eq_true rfl)
          have c34_B2_1 : w19.cell? ⟨w14.heap.size, 1, none⟩ = some (.int .i64 0) := B2_19.c 1 (of_decide_eq_true rfl)
          have c34_B2_2 : w19.cell? ⟨w14.heap.size, 2, none⟩ = some (.int .i64 r17.1) := B2_19.c 2 (of_decide_eq_true rfl)
          have c34_B2_3 : w19.cell? ⟨w14.heap.size, 3, none⟩ = some (.int .i64 0) := B2_19.c 3 (of_decide_eq_true rfl)
          have c34_B3_2 : w19.cell? ⟨w14.heap.size + 1, 2, none⟩ = some (.int .i64 r14.1) := B3_19.c 2 (of_decide_eq_true rfl)
          have g34_B2_3 := B2_19.f 3 (of_decide_eq_true rfl)
          go_wp2_with fail
          refine (xUnit_any b r19.2 (r18.1, r19.1, r17.1, r14.1) _ ((f19.new w14.heap.size 1 (by omega) (.int .i64 r19.1)).new w14.heap.size 3 (by omega) (.int .i64 r14.1))).mono ?_
          rintro e w20 ⟨rfl, f20, k20⟩
          generalize e20 : xUnitS r19.2 (r18.1, r19.1, r17.1, r14.1) = r20 at f20 ⊢
          have E20 : Hid _ := e20
          clear e20
          have K20 : Kept b w w20 := Kept.trans ((K19.new _ _ (by omega) _).new _ _ (by omega) _) k20
          have B0_20 : Arr w.heap.size [.int .i64 m.1, .int .i64 m.2.1, .int .i64 m.2.2.1, .int .i64 m.2.2.2.1, .int .i64 m.2.2.2.2.1, .int .i64 m.2.2.2.2.2.1, .int .i64 m.2.2.2.2.2.2.1, .int .i64 m.2.2.2.2.2.2.2.1, .int .i64 m.2.2.2.2.2.2.2.2] w20 := ((B0_19.new w14.heap.size 1 (by omega) (.int .i64 r19.1)).new w14.heap.size 3 (by omega) (.int .i64 r14.1)).kept k20 (by omega)
          have B1_20 : Arr (w.heap.size + 1) [.int .i64 0, .int .i64 0, .int .i64 0, .int .i64 0] w20 := ((B1_19.new w14.heap.size 1 (by omega) (.int .i64 r19.1)).new w14.heap.size 3 (by omega) (.int .i64 r14.1)).kept k20 (by omega)
          have B2_20 : Arr w14.heap.size [.int .i64 r18.1, .int .i64 r19.1, .int .i64 r17.1, .int .i64 r14.1] w20 := ((B2_19.put 1 (of_decide_eq_true rfl) (.int .i64 r19.1) [.int .i64 r18.1, .int .i64 r19.1, .int .i64 r17.1, .int .i64 0] rfl).put 3 (of_decide_eq_true rfl) (.int .i64 r14.1) [.int .i64 r18.1, .int .i64 r19.1, .int .i64 r17.1, .int .i64 r14.1] rfl).kept k20 (by omega)
          have B3_20 : Arr (w14.heap.size + 1) [.int .i64 r12.1, .int .i64 r13.1, .int .i64 r14.1] w20 := ((B3_19.new w14.heap.size 1 (by omega) (.int .i64 r19.1)).new w14.heap.size 3 (by omega) (.int .i64 r14.1)).kept k20 (by omega)
          have z20 := B3_20.lies
          clear c34_B2_0 c34_B2_1 c34_B2_2 c34_B2_3 c34_B3_2 g34_B2_3 K19 f19 B0_19 B1_19 B2_19 B3_19 k20
          have c35_B1_0 : w20.cell? ⟨w.heap.size + 1, 0, none⟩ = some (.int .i64 0) := B1_20.c 0 (of_decide_eq_true rfl)
          have c35_B1_1 : w20.cell? ⟨w.heap.size + 1, 1, none⟩ = some (.int .i64 0) := B1_20.c 1 (of_decide_eq_true rfl)
          have c35_B1_2 : w20.cell? ⟨w.heap.size + 1, 2, none⟩ = some (.int .i64 0) := B1_20.c 2 (of_decide_eq_true rfl)
          have c35_B1_3 : w20.cell? ⟨w.heap.size + 1, 3, none⟩ = some (.int .i64 0) := B1_20.c 3 (of_decide_eq_true rfl)
          have g35_B1_0 := B1_20.f 0 (of_decide_eq_true rfl)
          have g35_B1_1 := B1_20.f 1 (of_decide_eq_true rfl)
          have g35_B1_2 := B1_20.f 2 (of_decide_eq_true rfl)
          have g35_B1_3 := B1_20.f 3 (of_decide_eq_true rfl)
          go_wp2_with (with_reducible refine post_stop ?_)
          refine Stop.mk ?_
          clear c35_B1_0 c35_B1_1 c35_B1_2 c35_B1_3 g35_B1_0 g35_B1_1 g35_B1_2 g35_B1_3
          refine bodyPost_ret (v := .agg #[.int .i64 r20.1.1, .int .i64 r20.1.2.1, .int .i64 r20.1.2.2.1, .int .i64 r20.1.2.2.2]) (results_arr Try.results29 ((((B1_20.put 0 (of_decide_eq_true rfl) (.int .i64 r20.1.1) [.int .i64 r20.1.1, .int .i64 0, .int .i64 0, .int .i64 0] rfl).put 1 (of_decide_eq_true rfl) (.int .i64 r20.1.2.1) [.int .i64 r20.1.1, .int .i64 r20.1.2.1, .int .i64 0, .int .i64 0] rfl).put 2 (of_decide_eq_true rfl) (.int .i64 r20.1.2.2.1) [.int .i64 r20.1.1, .int .i64 r20.1.2.1, .int .i64 r20.1.2.2.1, .int .i64 0] rfl).put 3 (of_decide_eq_true rfl) (.int .i64 r20.1.2.2.2) [.int .i64 r20.1.1, .int .i64 r20.1.2.1, .int .i64 r20.1.2.2.1, .int .i64 r20.1.2.2.2] rfl) rfl (by kernel_rfl) (by kernel_rfl)) rfl ?_
          have hs : xFromMatrixS bad m = (r20.1, r20.2) := by unfold xFromMatrixS; simp only [E1.out, E2.out, E3.out, E4.out, E5.out, E6.out, E7.out, E8.out, E9.out, E10.out, E11.out, E12.out, E13.out, E14.out, E15.out, E16.out, E17.out, E18.out, E19.out, E20.out]; rw [if_neg (by rw [Hhc1.out]; decide)]; rw [if_neg (by have := Hhc2.out; omega)]; rw [if_pos (by have := Hhc3.out; omega)]; rw [if_pos (by have := Hhc4.out; omega)]
          rw [hs]
          exact ⟨rfl, ((((f20.new (w.heap.size + 1) 0 (by omega) (.int .i64 r20.1.1)).new (w.heap.size + 1) 1 (by omega) (.int .i64 r20.1.2.1)).new (w.heap.size + 1) 2 (by omega) (.int .i64 r20.1.2.2.1)).new (w.heap.size + 1) 3 (by omega) (.int .i64 r20.1.2.2.2)), ((((K20.new _ _ (by omega) _).new _ _ (by omega) _).new _ _ (by omega) _).new _ _ (by omega) _)⟩
        · have Hhc4 : Hid (¬ m.2.2.2.2.2.2.2.2 > m.2.2.2.2.1) := hc4
          have c24_B0_8 : w11.cell? ⟨w.heap.size, 8, none⟩ = some (.int .i64 m.2.2.2.2.2.2.2.2) := B0_11.c 8 (of_decide_eq_true rfl)
          go_wp2_with fail
          clear c24_B0_8
          rw [rounds_succ]
          have c25_B0_5 : w11.cell? ⟨w.heap.size, 5, none⟩ = some (.int .i64 m.2.2.2.2.2.1) := B0_11.c 5 (of_decide_eq_true rfl)
          have c25_B0_7 : w11.cell? ⟨w.heap.size, 7, none⟩ = some (.int .i64 m.2.2.2.2.2.2.2.1) := B0_11.c 7 (of_decide_eq_true rfl)
          go_wp2_with fail
          refine (rSub_any b r11.2 m.2.2.2.2.2.1 m.2.2.2.2.2.2.2.1 _ f11).mono ?_
          rintro e w12 ⟨rfl, f12, k12⟩
          generalize e12 : subS r11.2 m.2.2.2.2.2.1 m.2.2.2.2.2.2.2.1 = r12 at f12 ⊢
          have E12 : Hid _ := e12
          clear e12
          have K12 : Kept b w w12 := Kept.trans K11 k12
          have B0_12 : Arr w.heap.size [.int .i64 m.1, .int .i64 m.2.1, .int .i64 m.2.2.1, .int .i64 m.2.2.2.1, .int .i64 m.2.2.2.2.1, .int .i64 m.2.2.2.2.2.1, .int .i64 m.2.2.2.2.2.2.1, .int .i64 m.2.2.2.2.2.2.2.1, .int .i64 m.2.2.2.2.2.2.2.2] w12 := B0_11.kept k12 (by omega)
          have B1_12 : Arr (w.heap.size + 1) [.int .i64 0, .int .i64 0, .int .i64 0, .int .i64 0] w12 := B1_11.kept k12 (by omega)
          have z12 := B1_12.lies
          clear c25_B0_5 c25_B0_7 K11 f11 B0_11 B1_11 k12
          have c26_B0_2 : w12.cell? ⟨w.heap.size, 2, none⟩ = some (.int .i64 m.2.2.1) := B0_12.c 2 (of_decide_eq_true rfl)
          have c26_B0_6 : w12.cell? ⟨w.heap.size, 6, none⟩ = some (.int .i64 m.2.2.2.2.2.2.1) := B0_12.c 6 (of_decide_eq_true rfl)
          go_wp2_with fail
          refine (rSub_any b r12.2 m.2.2.2.2.2.2.1 m.2.2.1 _ f12).mono ?_
          rintro e w13 ⟨rfl, f13, k13⟩
          generalize e13 : subS r12.2 m.2.2.2.2.2.2.1 m.2.2.1 = r13 at f13 ⊢
          have E13 : Hid _ := e13
          clear e13
          have K13 : Kept b w w13 := Kept.trans K12 k13
          have B0_13 : Arr w.heap.size [.int .i64 m.1, .int .i64 m.2.1, .int .i64 m.2.2.1, .int .i64 m.2.2.2.1, .int .i64 m.2.2.2.2.1, .int .i64 m.2.2.2.2.2.1, .int .i64 m.2.2.2.2.2.2.1, .int .i64 m.2.2.2.2.2.2.2.1, .int .i64 m.2.2.2.2.2.2.2.2] w13 := B0_12.kept k13 (by omega)
          have B1_13 : Arr (w.heap.size + 1) [.int .i64 0, .int .i64 0, .int .i64 0, .int .i64 0] w13 := B1_12.kept k13 (by omega)
          have z13 := B1_13.lies
          clear c26_B0_2 c26_B0_6 K12 f12 B0_12 B1_12 k13
          have c27_B0_1 : w13.cell? ⟨w.heap.size, 1, none⟩ = some (.int .i64 m.2.1) := B0_13.c 1 (of_decide_eq_true rfl)
          have c27_B0_3 : w13.cell? ⟨w.heap.size, 3, none⟩ = some (.int .i64 m.2.2.2.1) := B0_13.c 3 (of_decide_eq_true rfl)
          go_wp2_with fail
          refine (rSub_any b r13.2 m.2.1 m.2.2.2.1 _ f13).mono ?_
          rintro e w14 ⟨rfl, f14, k14⟩
          generalize e14 : subS r13.2 m.2.1 m.2.2.2.1 = r14 at f14 ⊢
          have E14 : Hid _ := e14
          clear e14
          have K14 : Kept b w w14 := Kept.trans K13 k14
          have B0_14 : Arr w.heap.size [.int .i64 m.1, .int .i64 m.2.1, .int .i64 m.2.2.1, .int .i64 m.2.2.2.1, .int .i64 m.2.2.2.2.1, .int .i64 m.2.2.2.2.2.1, .int .i64 m.2.2.2.2.2.2.1, .int .i64 m.2.2.2.2.2.2.2.1, .int .i64 m.2.2.2.2.2.2.2.2] w14 := B0_13.kept k14 (by omega)
          have B1_14 : Arr (w.heap.size + 1) [.int .i64 0, .int .i64 0, .int .i64 0, .int .i64 0] w14 := B1_13.kept k14 (by omega)
          have z14 := B1_14.lies
          clear c27_B0_1 c27_B0_3 K13 f13 B0_13 B1_13 k14
          go_wp2_with fail
          refine wp_region_held_drew (S := fun w' => Arr w.heap.size [.int .i64 m.1, .int .i64 m.2.1, .int .i64 m.2.2.1, .int .i64 m.2.2.2.1, .int .i64 m.2.2.2.2.1, .int .i64 m.2.2.2.2.2.1, .int .i64 m.2.2.2.2.2.2.1, .int .i64 m.2.2.2.2.2.2.2.1, .int .i64 m.2.2.2.2.2.2.2.2] w') (by kernel_rfl) ((B0_14.alloc _).alloc _).drew (fun hHeld => ?_)
          refine take_at (i := 0) (v := ?v243) rfl (by kernel_rfl) (by kernel_rfl) (by kernel_rfl) (fun _ _ _ h => h) (Or.inl ⟨by rfl, ?y243⟩) hHeld ?t243
          case y243 => (intro wx hSw; go_simp <;> with_reducible rfl)
          simp only [Act.put, List.setIfInBounds_toArray, List.set_cons_zero, List.set_cons_succ]
          refine take_at (i := 1) (v := ?v244) rfl (by kernel_rfl) (by kernel_rfl) (by kernel_rfl) (fun _ _ _ h => h) (Or.inl ⟨by rfl, ?y244⟩) hHeld ?t244
          case y244 => (intro wx hSw; go_simp <;> with_reducible rfl)
          simp only [Act.put, List.setIfInBounds_toArray, List.set_cons_zero, List.set_cons_succ]
          refine take_at (i := 2) (v := ?v245) rfl (by kernel_rfl) (by kernel_rfl) (by kernel_rfl) (fun _ _ _ h => h) (Or.inl ⟨by rfl, ?y245⟩) hHeld ?t245
          case y245 => (intro wx hSw; go_simp <;> with_reducible rfl)
          simp only [Act.put, List.setIfInBounds_toArray, List.set_cons_zero, List.set_cons_succ]
          refine take_at (i := 3) (v := ?v246) rfl (by kernel_rfl) (by kernel_rfl) (by kernel_rfl) (fun _ _ _ h => h) (Or.inl ⟨by rfl, ?y246⟩) hHeld ?t246
          case y246 => (intro wx hSw; go_simp <;> with_reducible rfl)
          simp only [Act.put, List.setIfInBounds_toArray, List.set_cons_zero, List.set_cons_succ]
          refine take_at (i := 4) (v := ?v247) rfl (by kernel_rfl) (by kernel_rfl) (by kernel_rfl) (fun _ _ _ h => h) (Or.inl ⟨by rfl, ?y247⟩) hHeld ?t247
          case y247 => (intro wx hSw; go_simp <;> with_reducible rfl)
          simp only [Act.put, List.setIfInBounds_toArray, List.set_cons_zero, List.set_cons_succ]
          refine take_at (i := 5) (v := ?v248) rfl (by kernel_rfl) (by kernel_rfl) (by kernel_rfl) (fun _ _ _ h => h) (Or.inl ⟨by rfl, ?y248⟩) hHeld ?t248
          case y248 => (intro wx hSw; go_simp <;> with_reducible rfl)
          simp only [Act.put, List.setIfInBounds_toArray, List.set_cons_zero, List.set_cons_succ]
          refine take_at (i := 6) (v := ?v249) rfl (by kernel_rfl) (by kernel_rfl) (by kernel_rfl) (fun _ _ _ h => h) (Or.inl ⟨by rfl, ?y249⟩) hHeld ?t249
          case y249 => (intro wx hSw; go_simp <;> with_reducible rfl)
          simp only [Act.put, List.setIfInBounds_toArray, List.set_cons_zero, List.set_cons_succ]
          refine take_at (i := 7) (v := ?v250) rfl (by kernel_rfl) (by kernel_rfl) (by kernel_rfl) (fun _ _ _ h => h) (Or.inl ⟨by rfl, ?y250⟩) hHeld ?t250
          case y250 => (intro wx hSw; go_simp <;> with_reducible rfl)
          simp only [Act.put, List.setIfInBounds_toArray, List.set_cons_zero, List.set_cons_succ]
          refine take_at (i := 8) (v := ?v251) rfl (by kernel_rfl) (by kernel_rfl) (by kernel_rfl) (fun _ _ _ h => h) (Or.inl ⟨by rfl, ?y251⟩) hHeld ?t251
          case y251 => (intro wx hSw; have hc4 : wx.cell? ⟨w.heap.size, 4, none⟩ = some (.int .i64 m.2.2.2.2.1) := hSw.c 4 (of_decide_eq_true rfl); go_simp <;> with_reducible rfl)
          simp only [Act.put, List.setIfInBounds_toArray, List.set_cons_zero, List.set_cons_succ]
          refine take_at (i := 10) (v := ?v252) rfl (by kernel_rfl) (by kernel_rfl) (by kernel_rfl) (fun _ _ _ h => h) (Or.inl ⟨by rfl, ?y252⟩) hHeld ?t252
          case y252 => (intro wx hSw; go_simp <;> with_reducible rfl)
          simp only [Act.put, List.setIfInBounds_toArray, List.set_cons_zero, List.set_cons_succ]
          refine take_at (i := 11) (v := ?v253) rfl (by kernel_rfl) (by kernel_rfl) (by kernel_rfl) (fun _ _ _ h => h) (Or.inl ⟨by rfl, ?y253⟩) hHeld ?t253
          case y253 => (intro wx hSw; go_simp <;> with_reducible rfl)
          simp only [Act.put, List.setIfInBounds_toArray, List.set_cons_zero, List.set_cons_succ]
          refine take_at (i := 12) (v := ?v254) rfl (by kernel_rfl) (by kernel_rfl) (by kernel_rfl) (fun _ _ _ h => h) (Or.inl ⟨by rfl, ?y254⟩) hHeld ?t254
          case y254 => (intro wx hSw; go_simp <;> with_reducible rfl)
          simp only [Act.put, List.setIfInBounds_toArray, List.set_cons_zero, List.set_cons_succ]
          refine take_at (i := 13) (v := ?v255) rfl (by kernel_rfl) (by kernel_rfl) (by kernel_rfl) (fun _ _ _ h => h) (Or.inl ⟨by rfl, ?y255⟩) hHeld ?t255
          case y255 => (intro wx hSw; go_simp <;> with_reducible rfl)
          simp only [Act.put, List.setIfInBounds_toArray, List.set_cons_zero, List.set_cons_succ]
          refine take_at (i := 14) (v := ?v256) rfl (by kernel_rfl) (by kernel_rfl) (by kernel_rfl) (fun _ _ _ h => h) (Or.inl ⟨by rfl, ?y256⟩) hHeld ?t256
          case y256 => (intro wx hSw; have hc8 : wx.cell? ⟨w.heap.size, 8, none⟩ = some (.int .i64 m.2.2.2.2.2.2.2.2) := hSw.c 8 (of_decide_eq_true rfl); go_simp <;> with_reducible rfl)
          simp only [Act.put, List.setIfInBounds_toArray, List.set_cons_zero, List.set_cons_succ]
          refine take_at (i := 16) (v := ?v257) rfl (by kernel_rfl) (by kernel_rfl) (by kernel_rfl) (fun _ _ _ h => h) (Or.inl ⟨by rfl, ?y257⟩) hHeld ?t257
          case y257 => (intro wx hSw; go_simp <;> with_reducible rfl)
          simp only [Act.put, List.setIfInBounds_toArray, List.set_cons_zero, List.set_cons_succ]
          refine take_at (i := 17) (v := ?v258) rfl (by kernel_rfl) (by kernel_rfl) (by kernel_rfl) (fun _ _ _ h => h) (Or.inl ⟨by rfl, ?y258⟩) hHeld ?t258
          case y258 => (intro wx hSw; go_simp <;> with_reducible rfl)
          simp only [Act.put, List.setIfInBounds_toArray, List.set_cons_zero, List.set_cons_succ]
          refine take_at (i := 18) (v := ?v259) rfl (by kernel_rfl) (by kernel_rfl) (by kernel_rfl) (fun _ _ _ h => h) (Or.inl ⟨by rfl, ?y259⟩) hHeld ?t259
          case y259 => (intro wx hSw; go_simp <;> with_reducible rfl)
          simp only [Act.put, List.setIfInBounds_toArray, List.set_cons_zero, List.set_cons_succ]
          refine take_at (i := 19) (v := ?v260) rfl (by kernel_rfl) (by kernel_rfl) (by kernel_rfl) (fun _ _ _ h => h) (Or.inl ⟨by rfl, ?y260⟩) hHeld ?t260
          case y260 => (intro wx hSw; go_simp <;> with_reducible rfl)
          simp only [Act.put, List.setIfInBounds_toArray, List.set_cons_zero, List.set_cons_succ]
          refine take_at (i := 20) (v := ?v261) rfl (by kernel_rfl) (by kernel_rfl) (by kernel_rfl) (fun _ _ _ h => h) (Or.inl ⟨by rfl, ?y261⟩) hHeld ?t261
          case y261 => (intro wx hSw; have hc0 : wx.cell? ⟨w.heap.size, 0, none⟩ = some (.int .i64 m.1) := hSw.c 0 (of_decide_eq_true rfl); go_simp <;> with_reducible rfl)
          simp only [Act.put, List.setIfInBounds_toArray, List.set_cons_zero, List.set_cons_succ]
          refine call_at (i := 9) (by kernel_rfl) rfl (fun K hK => ?_)
          go_simp
          refine (rAdd_any b r14.2 1099511627776 m.2.2.2.2.1 _ ((f14.alloc _).alloc _).drew).mono ?_
          rintro e w15 ⟨rfl, f15, k15⟩
          generalize e15 : addS r14.2 1099511627776 m.2.2.2.2.1 = r15 at f15 ⊢
          have E15 : Hid _ := e15
          clear e15
          have K15 : Kept b w w15 := Kept.trans ((K14.al _).al _).drew k15
          have B0_15 : Arr w.heap.size [.int .i64 m.1, .int .i64 m.2.1, .int .i64 m.2.2.1, .int .i64 m.2.2.2.1, .int .i64 m.2.2.2.2.1, .int .i64 m.2.2.2.2.2.1, .int .i64 m.2.2.2.2.2.2.1, .int .i64 m.2.2.2.2.2.2.2.1, .int .i64 m.2.2.2.2.2.2.2.2] w15 := ((B0_14.alloc _).alloc _).drew.kept k15 (by omega)
          have B1_15 : Arr (w.heap.size + 1) [.int .i64 0, .int .i64 0, .int .i64 0, .int .i64 0] w15 := ((B1_14.alloc _).alloc _).drew.kept k15 (by omega)
          have B2_15 : Arr w14.heap.size [.int .i64 0, .int .i64 0, .int .i64 0, .int .i64 0] w15 := ((Arr_at _ _ [.int .i64 0, .int .i64 0, .int .i64 0, .int .i64 0] _ (by simp)).alloc _).drew.kept k15 (by omega)
          have B3_15 : Arr (w14.heap.size + 1) [.int .i64 r12.1, .int .i64 r13.1, .int .i64 r14.1] w15 := (Arr_at _ _ [.int .i64 r12.1, .int .i64 r13.1, .int .i64 r14.1] _ (by simp)).drew.kept k15 (by omega)
          have z15 := B3_15.lies
          clear hHeld
          refine hK.out _ _ B0_15 (fun hHeld => ?_)
          clear hK K K14 f14 B0_14 B1_14 k15
          refine call_at (i := 15) (by kernel_rfl) rfl (fun K hK => ?_)
          go_simp
          refine (rSub_any b r15.2 r15.1 m.2.2.2.2.2.2.2.2 _ f15).mono ?_
          rintro e w16 ⟨rfl, f16, k16⟩
          generalize e16 : subS r15.2 r15.1 m.2.2.2.2.2.2.2.2 = r16 at f16 ⊢
          have E16 : Hid _ := e16
          clear e16
          have K16 : Kept b w w16 := Kept.trans K15 k16
          have B0_16 : Arr w.heap.size [.int .i64 m.1, .int .i64 m.2.1, .int .i64 m.2.2.1, .int .i64 m.2.2.2.1, .int .i64 m.2.2.2.2.1, .int .i64 m.2.2.2.2.2.1, .int .i64 m.2.2.2.2.2.2.1, .int .i64 m.2.2.2.2.2.2.2.1, .int .i64 m.2.2.2.2.2.2.2.2] w16 := B0_15.kept k16 (by omega)
          have B1_16 : Arr (w.heap.size + 1) [.int .i64 0, .int .i64 0, .int .i64 0, .int .i64 0] w16 := B1_15.kept k16 (by omega)
          have B2_16 : Arr w14.heap.size [.int .i64 0, .int .i64 0, .int .i64 0, .int .i64 0] w16 := B2_15.kept k16 (by omega)
          have B3_16 : Arr (w14.heap.size + 1) [.int .i64 r12.1, .int .i64 r13.1, .int .i64 r14.1] w16 := B3_15.kept k16 (by omega)
          have z16 := B3_16.lies
          clear hHeld
          refine hK.out _ _ B0_16 (fun hHeld => ?_)
          clear hK K K15 f15 B0_15 B1_15 B2_15 B3_15 k16
          refine call_at (i := 21) (by kernel_rfl) rfl (fun K hK => ?_)
          go_simp
          refine (rSub_any b r16.2 r16.1 m.1 _ f16).mono ?_
          rintro e w17 ⟨rfl, f17, k17⟩
          generalize e17 : subS r16.2 r16.1 m.1 = r17 at f17 ⊢
          have E17 : Hid _ := e17
          clear e17
          have K17 : Kept b w w17 := Kept.trans K16 k17
          have B0_17 : Arr w.heap.size [.int .i64 m.1, .int .i64 m.2.1, .int .i64 m.2.2.1, .int .i64 m.2.2.2.1, .int .i64 m.2.2.2.2.1, .int .i64 m.2.2.2.2.2.1, .int .i64 m.2.2.2.2.2.2.1, .int .i64 m.2.2.2.2.2.2.2.1, .int .i64 m.2.2.2.2.2.2.2.2] w17 := B0_16.kept k17 (by omega)
          have B1_17 : Arr (w.heap.size + 1) [.int .i64 0, .int .i64 0, .int .i64 0, .int .i64 0] w17 := B1_16.kept k17 (by omega)
          have B2_17 : Arr w14.heap.size [.int .i64 0, .int .i64 0, .int .i64 0, .int .i64 0] w17 := B2_16.kept k17 (by omega)
          have B3_17 : Arr (w14.heap.size + 1) [.int .i64 r12.1, .int .i64 r13.1, .int .i64 r14.1] w17 := B3_16.kept k17 (by omega)
          have z17 := B3_17.lies
          clear hHeld
          refine hK.out _ _ B0_17 (fun hHeld => ?_)
          clear hK K K16 f16 B0_16 B1_16 B2_16 B3_16 k17
          refine take_at (i := 22) (v := ?v262) rfl (by kernel_rfl) (by kernel_rfl) (by kernel_rfl) (fun _ _ _ h => h) (Or.inl ⟨by rfl, ?y262⟩) hHeld ?t262
          case y262 => (intro wx hSw; go_simp <;> with_reducible rfl)
          simp only [Act.put, List.setIfInBounds_toArray, List.set_cons_zero, List.set_cons_succ]
          refine call_at (i := 23) (by kernel_rfl) rfl (fun K hK => ?_)
          have c29_B2_1 : w17.cell? ⟨w14.heap.size, 1, none⟩ = some (.int .i64 0) := B2_17.c 1 (of_decide_eq_true rfl)
          have g29_B2_1 := B2_17.f 1 (of_decide_eq_true rfl)
          go_simp
          clear hHeld
          refine hK.out _ _ (B0_17.new w14.heap.size 1 (by omega) (.int .i64 r17.1)) (fun hHeld => ?_)
          clear hK K c29_B2_1 g29_B2_1
          refine wpAnyH_done (by kernel_rfl) ?_ _
          clear hHeld
          go_wp2_with fail
          refine wp_region_held_drew (S := fun w' => Arr w.heap.size [.int .i64 m.1, .int .i64 m.2.1, .int .i64 m.2.2.1, .int .i64 m.2.2.2.1, .int .i64 m.2.2.2.2.1, .int .i64 m.2.2.2.2.2.1, .int .i64 m.2.2.2.2.2.2.1, .int .i64 m.2.2.2.2.2.2.2.1, .int .i64 m.2.2.2.2.2.2.2.2] w') (by kernel_rfl) (B0_17.new w14.heap.size 1 (by omega) (.int .i64 r17.1)).drew (fun hHeld => ?_)
          refine take_at (i := 0) (v := ?v263) rfl (by kernel_rfl) (by kernel_rfl) (by kernel_rfl) (fun _ _ _ h => h) (Or.inl ⟨by rfl, ?y263⟩) hHeld ?t263
          case y263 => (intro wx hSw; go_simp <;> with_reducible rfl)
          simp only [Act.put, List.setIfInBounds_toArray, List.set_cons_zero, List.set_cons_succ]
          refine take_at (i := 1) (v := ?v264) rfl (by kernel_rfl) (by kernel_rfl) (by kernel_rfl) (fun _ _ _ h => h) (Or.inl ⟨by rfl, ?y264⟩) hHeld ?t264
          case y264 => (intro wx hSw; go_simp <;> with_reducible rfl)
          simp only [Act.put, List.setIfInBounds_toArray, List.set_cons_zero, List.set_cons_succ]
          refine take_at (i := 2) (v := ?v265) rfl (by kernel_rfl) (by kernel_rfl) (by kernel_rfl) (fun _ _ _ h => h) (Or.inl ⟨by rfl, ?y265⟩) hHeld ?t265
          case y265 => (intro wx hSw; go_simp <;> with_reducible rfl)
          simp only [Act.put, List.setIfInBounds_toArray, List.set_cons_zero, List.set_cons_succ]
          refine take_at (i := 3) (v := ?v266) rfl (by kernel_rfl) (by kernel_rfl) (by kernel_rfl) (fun _ _ _ h => h) (Or.inl ⟨by rfl, ?y266⟩) hHeld ?t266
          case y266 => (intro wx hSw; go_simp <;> with_reducible rfl)
          simp only [Act.put, List.setIfInBounds_toArray, List.set_cons_zero, List.set_cons_succ]
          refine take_at (i := 4) (v := ?v267) rfl (by kernel_rfl) (by kernel_rfl) (by kernel_rfl) (fun _ _ _ h => h) (Or.inl ⟨by rfl, ?y267⟩) hHeld ?t267
          case y267 => (intro wx hSw; go_simp <;> with_reducible rfl)
          simp only [Act.put, List.setIfInBounds_toArray, List.set_cons_zero, List.set_cons_succ]
          refine take_at (i := 5) (v := ?v268) rfl (by kernel_rfl) (by kernel_rfl) (by kernel_rfl) (fun _ _ _ h => h) (Or.inl ⟨by rfl, ?y268⟩) hHeld ?t268
          case y268 => (intro wx hSw; go_simp <;> with_reducible rfl)
          simp only [Act.put, List.setIfInBounds_toArray, List.set_cons_zero, List.set_cons_succ]
          refine take_at (i := 6) (v := ?v269) rfl (by kernel_rfl) (by kernel_rfl) (by kernel_rfl) (fun _ _ _ h => h) (Or.inl ⟨by rfl, ?y269⟩) hHeld ?t269
          case y269 => (intro wx hSw; have hc5 : wx.cell? ⟨w.heap.size, 5, none⟩ = some (.int .i64 m.2.2.2.2.2.1) := hSw.c 5 (of_decide_eq_true rfl); go_simp <;> with_reducible rfl)
          simp only [Act.put, List.setIfInBounds_toArray, List.set_cons_zero, List.set_cons_succ]
          refine take_at (i := 7) (v := ?v270) rfl (by kernel_rfl) (by kernel_rfl) (by kernel_rfl) (fun _ _ _ h => h) (Or.inl ⟨by rfl, ?y270⟩) hHeld ?t270
          case y270 => (intro wx hSw; go_simp <;> with_reducible rfl)
          simp only [Act.put, List.setIfInBounds_toArray, List.set_cons_zero, List.set_cons_succ]
          refine take_at (i := 8) (v := ?v271) rfl (by kernel_rfl) (by kernel_rfl) (by kernel_rfl) (fun _ _ _ h => h) (Or.inl ⟨by rfl, ?y271⟩) hHeld ?t271
          case y271 => (intro wx hSw; go_simp <;> with_reducible rfl)
          simp only [Act.put, List.setIfInBounds_toArray, List.set_cons_zero, List.set_cons_succ]
          refine take_at (i := 9) (v := ?v272) rfl (by kernel_rfl) (by kernel_rfl) (by kernel_rfl) (fun _ _ _ h => h) (Or.inl ⟨by rfl, ?y272⟩) hHeld ?t272
          case y272 => (intro wx hSw; go_simp <;> with_reducible rfl)
          simp only [Act.put, List.setIfInBounds_toArray, List.set_cons_zero, List.set_cons_succ]
          refine take_at (i := 10) (v := ?v273) rfl (by kernel_rfl) (by kernel_rfl) (by kernel_rfl) (fun _ _ _ h => h) (Or.inl ⟨by rfl, ?y273⟩) hHeld ?t273
          case y273 => (intro wx hSw; go_simp <;> with_reducible rfl)
          simp only [Act.put, List.setIfInBounds_toArray, List.set_cons_zero, List.set_cons_succ]
          refine take_at (i := 11) (v := ?v274) rfl (by kernel_rfl) (by kernel_rfl) (by kernel_rfl) (fun _ _ _ h => h) (Or.inl ⟨by rfl, ?y274⟩) hHeld ?t274
          case y274 => (intro wx hSw; have hc7 : wx.cell? ⟨w.heap.size, 7, none⟩ = some (.int .i64 m.2.2.2.2.2.2.2.1) := hSw.c 7 (of_decide_eq_true rfl); go_simp <;> with_reducible rfl)
          simp only [Act.put, List.setIfInBounds_toArray, List.set_cons_zero, List.set_cons_succ]
          refine call_at (i := 12) (by kernel_rfl) rfl (fun K hK => ?_)
          go_simp
          refine (rAdd_any b r17.2 m.2.2.2.2.2.1 m.2.2.2.2.2.2.2.1 _ (f17.new w14.heap.size 1 (by omega) (.int .i64 r17.1)).drew).mono ?_
          rintro e w18 ⟨rfl, f18, k18⟩
          generalize e18 : addS r17.2 m.2.2.2.2.2.1 m.2.2.2.2.2.2.2.1 = r18 at f18 ⊢
          have E18 : Hid _ := e18
          clear e18
          have K18 : Kept b w w18 := Kept.trans (K17.new _ _ (by omega) _).drew k18
          have B0_18 : Arr w.heap.size [.int .i64 m.1, .int .i64 m.2.1, .int .i64 m.2.2.1, .int .i64 m.2.2.2.1, .int .i64 m.2.2.2.2.1, .int .i64 m.2.2.2.2.2.1, .int .i64 m.2.2.2.2.2.2.1, .int .i64 m.2.2.2.2.2.2.2.1, .int .i64 m.2.2.2.2.2.2.2.2] w18 := (B0_17.new w14.heap.size 1 (by omega) (.int .i64 r17.1)).drew.kept k18 (by omega)
          have B1_18 : Arr (w.heap.size + 1) [.int .i64 0, .int .i64 0, .int .i64 0, .int .i64 0] w18 := (B1_17.new w14.heap.size 1 (by omega) (.int .i64 r17.1)).drew.kept k18 (by omega)
          have B2_18 : Arr w14.heap.size [.int .i64 0, .int .i64 r17.1, .int .i64 0, .int .i64 0] w18 := (B2_17.put 1 (of_decide_eq_true rfl) (.int .i64 r17.1) [.int .i64 0, .int .i64 r17.1, .int .i64 0, .int .i64 0] rfl).drew.kept k18 (by omega)
          have B3_18 : Arr (w14.heap.size + 1) [.int .i64 r12.1, .int .i64 r13.1, .int .i64 r14.1] w18 := (B3_17.new w14.heap.size 1 (by omega) (.int .i64 r17.1)).drew.kept k18 (by omega)
          have z18 := B3_18.lies
          clear hHeld
          refine hK.out _ _ B0_18 (fun hHeld => ?_)
          clear hK K K17 f17 B0_17 B1_17 B2_17 B3_17 k18
          refine take_at (i := 13) (v := ?v275) rfl (by kernel_rfl) (by kernel_rfl) (by kernel_rfl) (fun _ _ _ h => h) (Or.inl ⟨by rfl, ?y275⟩) hHeld ?t275
          case y275 => (intro wx hSw; go_simp <;> with_reducible rfl)
          simp only [Act.put, List.setIfInBounds_toArray, List.set_cons_zero, List.set_cons_succ]
          refine call_at (i := 14) (by kernel_rfl) rfl (fun K hK => ?_)
          have c31_B2_2 : w18.cell? ⟨w14.heap.size, 2, none⟩ = some (.int .i64 0) := B2_18.c 2 (of_decide_eq_true rfl)
          have g31_B2_2 := B2_18.f 2 (of_decide_eq_true rfl)
          go_simp
          clear hHeld
          refine hK.out _ _ (B0_18.new w14.heap.size 2 (by omega) (.int .i64 r18.1)) (fun hHeld => ?_)
          clear hK K c31_B2_2 g31_B2_2
          refine wpAnyH_done (by kernel_rfl) ?_ _
          clear hHeld
          go_wp2_with fail
          refine wp_region_held_drew (S := fun w' => Arr w.heap.size [.int .i64 m.1, .int .i64 m.2.1, .int .i64 m.2.2.1, .int .i64 m.2.2.2.1, .int .i64 m.2.2.2.2.1, .int .i64 m.2.2.2.2.2.1, .int .i64 m.2.2.2.2.2.2.1, .int .i64 m.2.2.2.2.2.2.2.1, .int .i64 m.2.2.2.2.2.2.2.2] w') (by kernel_rfl) (B0_18.new w14.heap.size 2 (by omega) (.int .i64 r18.1)).drew (fun hHeld => ?_)
          refine take_at (i := 0) (v := ?v276) rfl (by kernel_rfl) (by kernel_rfl) (by kernel_rfl) (fun _ _ _ h => h) (Or.inl ⟨by rfl, ?y276⟩) hHeld ?t276
          case y276 => (intro wx hSw; go_simp <;> with_reducible rfl)
          simp only [Act.put, List.setIfInBounds_toArray, List.set_cons_zero, List.set_cons_succ]
          refine take_at (i := 1) (v := ?v277) rfl (by kernel_rfl) (by kernel_rfl) (by kernel_rfl) (fun _ _ _ h => h) (Or.inl ⟨by rfl, ?y277⟩) hHeld ?t277
          case y277 => (intro wx hSw; go_simp <;> with_reducible rfl)
          simp only [Act.put, List.setIfInBounds_toArray, List.set_cons_zero, List.set_cons_succ]
          refine take_at (i := 2) (v := ?v278) rfl (by kernel_rfl) (by kernel_rfl) (by kernel_rfl) (fun _ _ _ h => h) (Or.inl ⟨by rfl, ?y278⟩) hHeld ?t278
          case y278 => (intro wx hSw; go_simp <;> with_reducible rfl)
          simp only [Act.put, List.setIfInBounds_toArray, List.set_cons_zero, List.set_cons_succ]
          refine take_at (i := 3) (v := ?v279) rfl (by kernel_rfl) (by kernel_rfl) (by kernel_rfl) (fun _ _ _ h => h) (Or.inl ⟨by rfl, ?y279⟩) hHeld ?t279
          case y279 => (intro wx hSw; go_simp <;> with_reducible rfl)
          simp only [Act.put, List.setIfInBounds_toArray, List.set_cons_zero, List.set_cons_succ]
          refine take_at (i := 4) (v := ?v280) rfl (by kernel_rfl) (by kernel_rfl) (by kernel_rfl) (fun _ _ _ h => h) (Or.inl ⟨by rfl, ?y280⟩) hHeld ?t280
          case y280 => (intro wx hSw; go_simp <;> with_reducible rfl)
          simp only [Act.put, List.setIfInBounds_toArray, List.set_cons_zero, List.set_cons_succ]
          refine take_at (i := 5) (v := ?v281) rfl (by kernel_rfl) (by kernel_rfl) (by kernel_rfl) (fun _ _ _ h => h) (Or.inl ⟨by rfl, ?y281⟩) hHeld ?t281
          case y281 => (intro wx hSw; go_simp <;> with_reducible rfl)
          simp only [Act.put, List.setIfInBounds_toArray, List.set_cons_zero, List.set_cons_succ]
          refine take_at (i := 6) (v := ?v282) rfl (by kernel_rfl) (by kernel_rfl) (by kernel_rfl) (fun _ _ _ h => h) (Or.inl ⟨by rfl, ?y282⟩) hHeld ?t282
          case y282 => (intro wx hSw; have hc3 : wx.cell? ⟨w.heap.size, 3, none⟩ = some (.int .i64 m.2.2.2.1) := hSw.c 3 (of_decide_eq_true rfl); go_simp <;> with_reducible rfl)
          simp only [Act.put, List.setIfInBounds_toArray, List.set_cons_zero, List.set_cons_succ]
          refine take_at (i := 7) (v := ?v283) rfl (by kernel_rfl) (by kernel_rfl) (by kernel_rfl) (fun _ _ _ h => h) (Or.inl ⟨by rfl, ?y283⟩) hHeld ?t283
          case y283 => (intro wx hSw; go_simp <;> with_reducible rfl)
          simp only [Act.put, List.setIfInBounds_toArray, List.set_cons_zero, List.set_cons_succ]
          refine take_at (i := 8) (v := ?v284) rfl (by kernel_rfl) (by kernel_rfl) (by kernel_rfl) (fun _ _ _ h => h) (Or.inl ⟨by rfl, ?y284⟩) hHeld ?t284
          case y284 => (intro wx hSw; go_simp <;> with_reducible rfl)
          simp only [Act.put, List.setIfInBounds_toArray, List.set_cons_zero, List.set_cons_succ]
          refine take_at (i := 9) (v := ?v285) rfl (by kernel_rfl) (by kernel_rfl) (by kernel_rfl) (fun _ _ _ h => h) (Or.inl ⟨by rfl, ?y285⟩) hHeld ?t285
          case y285 => (intro wx hSw; go_simp <;> with_reducible rfl)
          simp only [Act.put, List.setIfInBounds_toArray, List.set_cons_zero, List.set_cons_succ]
          refine take_at (i := 10) (v := ?v286) rfl (by kernel_rfl) (by kernel_rfl) (by kernel_rfl) (fun _ _ _ h => h) (Or.inl ⟨by rfl, ?y286⟩) hHeld ?t286
          case y286 => (intro wx hSw; go_simp <;> with_reducible rfl)
          simp only [Act.put, List.setIfInBounds_toArray, List.set_cons_zero, List.set_cons_succ]
          refine take_at (i := 11) (v := ?v287) rfl (by kernel_rfl) (by kernel_rfl) (by kernel_rfl) (fun _ _ _ h => h) (Or.inl ⟨by rfl, ?y287⟩) hHeld ?t287
          case y287 => (intro wx hSw; have hc1 : wx.cell? ⟨w.heap.size, 1, none⟩ = some (.int .i64 m.2.1) := hSw.c 1 (of_decide_eq_true rfl); go_simp <;> with_reducible rfl)
          simp only [Act.put, List.setIfInBounds_toArray, List.set_cons_zero, List.set_cons_succ]
          refine call_at (i := 12) (by kernel_rfl) rfl (fun K hK => ?_)
          go_simp
          refine (rAdd_any b r18.2 m.2.2.2.1 m.2.1 _ (f18.new w14.heap.size 2 (by omega) (.int .i64 r18.1)).drew).mono ?_
          rintro e w19 ⟨rfl, f19, k19⟩
          generalize e19 : addS r18.2 m.2.2.2.1 m.2.1 = r19 at f19 ⊢
          have E19 : Hid _ := e19
          clear e19
          have K19 : Kept b w w19 := Kept.trans (K18.new _ _ (by omega) _).drew k19
          have B0_19 : Arr w.heap.size [.int .i64 m.1, .int .i64 m.2.1, .int .i64 m.2.2.1, .int .i64 m.2.2.2.1, .int .i64 m.2.2.2.2.1, .int .i64 m.2.2.2.2.2.1, .int .i64 m.2.2.2.2.2.2.1, .int .i64 m.2.2.2.2.2.2.2.1, .int .i64 m.2.2.2.2.2.2.2.2] w19 := (B0_18.new w14.heap.size 2 (by omega) (.int .i64 r18.1)).drew.kept k19 (by omega)
          have B1_19 : Arr (w.heap.size + 1) [.int .i64 0, .int .i64 0, .int .i64 0, .int .i64 0] w19 := (B1_18.new w14.heap.size 2 (by omega) (.int .i64 r18.1)).drew.kept k19 (by omega)
          have B2_19 : Arr w14.heap.size [.int .i64 0, .int .i64 r17.1, .int .i64 r18.1, .int .i64 0] w19 := (B2_18.put 2 (of_decide_eq_true rfl) (.int .i64 r18.1) [.int .i64 0, .int .i64 r17.1, .int .i64 r18.1, .int .i64 0] rfl).drew.kept k19 (by omega)
          have B3_19 : Arr (w14.heap.size + 1) [.int .i64 r12.1, .int .i64 r13.1, .int .i64 r14.1] w19 := (B3_18.new w14.heap.size 2 (by omega) (.int .i64 r18.1)).drew.kept k19 (by omega)
          have z19 := B3_19.lies
          clear hHeld
          refine hK.out _ _ B0_19 (fun hHeld => ?_)
          clear hK K K18 f18 B0_18 B1_18 B2_18 B3_18 k19
          refine take_at (i := 13) (v := ?v288) rfl (by kernel_rfl) (by kernel_rfl) (by kernel_rfl) (fun _ _ _ h => h) (Or.inl ⟨by rfl, ?y288⟩) hHeld ?t288
          case y288 => (intro wx hSw; go_simp <;> with_reducible rfl)
          simp only [Act.put, List.setIfInBounds_toArray, List.set_cons_zero, List.set_cons_succ]
          refine call_at (i := 14) (by kernel_rfl) rfl (fun K hK => ?_)
          have c33_B2_0 : w19.cell? ⟨w14.heap.size, 0, none⟩ = some (.int .i64 0) := B2_19.c 0 (of_decide_eq_true rfl)
          have g33_B2_0 := B2_19.f 0 (of_decide_eq_true rfl)
          go_simp
          clear hHeld
          refine hK.out _ _ (B0_19.new w14.heap.size 0 (by omega) (.int .i64 r19.1)) (fun hHeld => ?_)
          clear hK K c33_B2_0 g33_B2_0
          refine wpAnyH_done (by kernel_rfl) ?_ _
          clear hHeld
          have c34_B2_0 : w19.cell? ⟨w14.heap.size, 0, none⟩ = some (.int .i64 0) := B2_19.c 0 (of_decide_eq_true rfl)
          have c34_B2_1 : w19.cell? ⟨w14.heap.size, 1, none⟩ = some (.int .i64 r17.1) := B2_19.c 1 (of_decide_eq_true rfl)
          have c34_B2_2 : w19.cell? ⟨w14.heap.size, 2, none⟩ = some (.int .i64 r18.1) := B2_19.c 2 (of_decide_eq_true rfl)
          have c34_B2_3 : w19.cell? ⟨w14.heap.size, 3, none⟩ = some (.int .i64 0) := B2_19.c 3 (of_decide_eq_true rfl)
          have c34_B3_1 : w19.cell? ⟨w14.heap.size + 1, 1, none⟩ = some (.int .i64 r13.1) := B3_19.c 1 (of_decide_eq_true rfl)
          have g34_B2_3 := B2_19.f 3 (of_decide_eq_true rfl)
          go_wp2_with fail
          refine (xUnit_any b r19.2 (r19.1, r17.1, r18.1, r13.1) _ ((f19.new w14.heap.size 0 (by omega) (.int .i64 r19.1)).new w14.heap.size 3 (by omega) (.int .i64 r13.1))).mono ?_
          rintro e w20 ⟨rfl, f20, k20⟩
          generalize e20 : xUnitS r19.2 (r19.1, r17.1, r18.1, r13.1) = r20 at f20 ⊢
          have E20 : Hid _ := e20
          clear e20
          have K20 : Kept b w w20 := Kept.trans ((K19.new _ _ (by omega) _).new _ _ (by omega) _) k20
          have B0_20 : Arr w.heap.size [.int .i64 m.1, .int .i64 m.2.1, .int .i64 m.2.2.1, .int .i64 m.2.2.2.1, .int .i64 m.2.2.2.2.1, .int .i64 m.2.2.2.2.2.1, .int .i64 m.2.2.2.2.2.2.1, .int .i64 m.2.2.2.2.2.2.2.1, .int .i64 m.2.2.2.2.2.2.2.2] w20 := ((B0_19.new w14.heap.size 0 (by omega) (.int .i64 r19.1)).new w14.heap.size 3 (by omega) (.int .i64 r13.1)).kept k20 (by omega)
          have B1_20 : Arr (w.heap.size + 1) [.int .i64 0, .int .i64 0, .int .i64 0, .int .i64 0] w20 := ((B1_19.new w14.heap.size 0 (by omega) (.int .i64 r19.1)).new w14.heap.size 3 (by omega) (.int .i64 r13.1)).kept k20 (by omega)
          have B2_20 : Arr w14.heap.size [.int .i64 r19.1, .int .i64 r17.1, .int .i64 r18.1, .int .i64 r13.1] w20 := ((B2_19.put 0 (of_decide_eq_true rfl) (.int .i64 r19.1) [.int .i64 r19.1, .int .i64 r17.1, .int .i64 r18.1, .int .i64 0] rfl).put 3 (of_decide_eq_true rfl) (.int .i64 r13.1) [.int .i64 r19.1, .int .i64 r17.1, .int .i64 r18.1, .int .i64 r13.1] rfl).kept k20 (by omega)
          have B3_20 : Arr (w14.heap.size + 1) [.int .i64 r12.1, .int .i64 r13.1, .int .i64 r14.1] w20 := ((B3_19.new w14.heap.size 0 (by omega) (.int .i64 r19.1)).new w14.heap.size 3 (by omega) (.int .i64 r13.1)).kept k20 (by omega)
          have z20 := B3_20.lies
          clear c34_B2_0 c34_B2_1 c34_B2_2 c34_B2_3 c34_B3_1 g34_B2_3 K19 f19 B0_19 B1_19 B2_19 B3_19 k20
          have c35_B1_0 : w20.cell? ⟨w.heap.size + 1, 0, none⟩ = some (.int .i64 0) := B1_20.c 0 (of_decide_eq_true rfl)
          have c35_B1_1 : w20.cell? ⟨w.heap.size + 1, 1, none⟩ = some (.int .i64 0) := B1_20.c 1 (of_decide_eq_true rfl)
          have c35_B1_2 : w20.cell? ⟨w.heap.size + 1, 2, none⟩ = some (.int .i64 0) := B1_20.c 2 (of_decide_eq_true rfl)
          have c35_B1_3 : w20.cell? ⟨w.heap.size + 1, 3, none⟩ = some (.int .i64 0) := B1_20.c 3 (of_decide_eq_true rfl)
          have g35_B1_0 := B1_20.f 0 (of_decide_eq_true rfl)
          have g35_B1_1 := B1_20.f 1 (of_decide_eq_true rfl)
          have g35_B1_2 := B1_20.f 2 (of_decide_eq_true rfl)
          have g35_B1_3 := B1_20.f 3 (of_decide_eq_true rfl)
          go_wp2_with (with_reducible refine post_stop ?_)
          refine Stop.mk ?_
          clear c35_B1_0 c35_B1_1 c35_B1_2 c35_B1_3 g35_B1_0 g35_B1_1 g35_B1_2 g35_B1_3
          refine bodyPost_ret (v := .agg #[.int .i64 r20.1.1, .int .i64 r20.1.2.1, .int .i64 r20.1.2.2.1, .int .i64 r20.1.2.2.2]) (results_arr Try.results29 ((((B1_20.put 0 (of_decide_eq_true rfl) (.int .i64 r20.1.1) [.int .i64 r20.1.1, .int .i64 0, .int .i64 0, .int .i64 0] rfl).put 1 (of_decide_eq_true rfl) (.int .i64 r20.1.2.1) [.int .i64 r20.1.1, .int .i64 r20.1.2.1, .int .i64 0, .int .i64 0] rfl).put 2 (of_decide_eq_true rfl) (.int .i64 r20.1.2.2.1) [.int .i64 r20.1.1, .int .i64 r20.1.2.1, .int .i64 r20.1.2.2.1, .int .i64 0] rfl).put 3 (of_decide_eq_true rfl) (.int .i64 r20.1.2.2.2) [.int .i64 r20.1.1, .int .i64 r20.1.2.1, .int .i64 r20.1.2.2.1, .int .i64 r20.1.2.2.2] rfl) rfl (by kernel_rfl) (by kernel_rfl)) rfl ?_
          have hs : xFromMatrixS bad m = (r20.1, r20.2) := by unfold xFromMatrixS; simp only [E1.out, E2.out, E3.out, E4.out, E5.out, E6.out, E7.out, E8.out, E9.out, E10.out, E11.out, E12.out, E13.out, E14.out, E15.out, E16.out, E17.out, E18.out, E19.out, E20.out]; rw [if_neg (by rw [Hhc1.out]; decide)]; rw [if_neg (by have := Hhc2.out; omega)]; rw [if_pos (by have := Hhc3.out; omega)]; rw [if_neg (by have := Hhc4.out; omega)]
          rw [hs]
          exact ⟨rfl, ((((f20.new (w.heap.size + 1) 0 (by omega) (.int .i64 r20.1.1)).new (w.heap.size + 1) 1 (by omega) (.int .i64 r20.1.2.1)).new (w.heap.size + 1) 2 (by omega) (.int .i64 r20.1.2.2.1)).new (w.heap.size + 1) 3 (by omega) (.int .i64 r20.1.2.2.2)), ((((K20.new _ _ (by omega) _).new _ _ (by omega) _).new _ _ (by omega) _).new _ _ (by omega) _)⟩
      · have Hhc3 : Hid (¬ m.2.2.2.2.1 > r2.1) := hc3
        have c23_B0_4 : w11.cell? ⟨w.heap.size, 4, none⟩ = some (.int .i64 m.2.2.2.2.1) := B0_11.c 4 (of_decide_eq_true rfl)
        go_wp2_with fail
        clear c23_B0_4
        rw [rounds_succ]
        by_cases hc4 : m.2.2.2.2.2.2.2.2 > r2.1
        · have Hhc4 : Hid (m.2.2.2.2.2.2.2.2 > r2.1) := hc4
          have c24_B0_8 : w11.cell? ⟨w.heap.size, 8, none⟩ = some (.int .i64 m.2.2.2.2.2.2.2.2) := B0_11.c 8 (of_decide_eq_true rfl)
          go_wp2_with fail
          clear c24_B0_8
          rw [rounds_succ]
          have c25_B0_5 : w11.cell? ⟨w.heap.size, 5, none⟩ = some (.int .i64 m.2.2.2.2.2.1) := B0_11.c 5 (of_decide_eq_true rfl)
          have c25_B0_7 : w11.cell? ⟨w.heap.size, 7, none⟩ = some (.int .i64 m.2.2.2.2.2.2.2.1) := B0_11.c 7 (of_decide_eq_true rfl)
          go_wp2_with fail
          refine (rSub_any b r11.2 m.2.2.2.2.2.1 m.2.2.2.2.2.2.2.1 _ f11).mono ?_
          rintro e w12 ⟨rfl, f12, k12⟩
          generalize e12 : subS r11.2 m.2.2.2.2.2.1 m.2.2.2.2.2.2.2.1 = r12 at f12 ⊢
          have E12 : Hid _ := e12
          clear e12
          have K12 : Kept b w w12 := Kept.trans K11 k12
          have B0_12 : Arr w.heap.size [.int .i64 m.1, .int .i64 m.2.1, .int .i64 m.2.2.1, .int .i64 m.2.2.2.1, .int .i64 m.2.2.2.2.1, .int .i64 m.2.2.2.2.2.1, .int .i64 m.2.2.2.2.2.2.1, .int .i64 m.2.2.2.2.2.2.2.1, .int .i64 m.2.2.2.2.2.2.2.2] w12 := B0_11.kept k12 (by omega)
          have B1_12 : Arr (w.heap.size + 1) [.int .i64 0, .int .i64 0, .int .i64 0, .int .i64 0] w12 := B1_11.kept k12 (by omega)
          have z12 := B1_12.lies
          clear c25_B0_5 c25_B0_7 K11 f11 B0_11 B1_11 k12
          have c26_B0_2 : w12.cell? ⟨w.heap.size, 2, none⟩ = some (.int .i64 m.2.2.1) := B0_12.c 2 (of_decide_eq_true rfl)
          have c26_B0_6 : w12.cell? ⟨w.heap.size, 6, none⟩ = some (.int .i64 m.2.2.2.2.2.2.1) := B0_12.c 6 (of_decide_eq_true rfl)
          go_wp2_with fail
          refine (rSub_any b r12.2 m.2.2.2.2.2.2.1 m.2.2.1 _ f12).mono ?_
          rintro e w13 ⟨rfl, f13, k13⟩
          generalize e13 : subS r12.2 m.2.2.2.2.2.2.1 m.2.2.1 = r13 at f13 ⊢
          have E13 : Hid _ := e13
          clear e13
          have K13 : Kept b w w13 := Kept.trans K12 k13
          have B0_13 : Arr w.heap.size [.int .i64 m.1, .int .i64 m.2.1, .int .i64 m.2.2.1, .int .i64 m.2.2.2.1, .int .i64 m.2.2.2.2.1, .int .i64 m.2.2.2.2.2.1, .int .i64 m.2.2.2.2.2.2.1, .int .i64 m.2.2.2.2.2.2.2.1, .int .i64 m.2.2.2.2.2.2.2.2] w13 := B0_12.kept k13 (by omega)
          have B1_13 : Arr (w.heap.size + 1) [.int .i64 0, .int .i64 0, .int .i64 0, .int .i64 0] w13 := B1_12.kept k13 (by omega)
          have z13 := B1_13.lies
          clear c26_B0_2 c26_B0_6 K12 f12 B0_12 B1_12 k13
          have c27_B0_1 : w13.cell? ⟨w.heap.size, 1, none⟩ = some (.int .i64 m.2.1) := B0_13.c 1 (of_decide_eq_true rfl)
          have c27_B0_3 : w13.cell? ⟨w.heap.size, 3, none⟩ = some (.int .i64 m.2.2.2.1) := B0_13.c 3 (of_decide_eq_true rfl)
          go_wp2_with fail
          refine (rSub_any b r13.2 m.2.1 m.2.2.2.1 _ f13).mono ?_
          rintro e w14 ⟨rfl, f14, k14⟩
          generalize e14 : subS r13.2 m.2.1 m.2.2.2.1 = r14 at f14 ⊢
          have E14 : Hid _ := e14
          clear e14
          have K14 : Kept b w w14 := Kept.trans K13 k14
          have B0_14 : Arr w.heap.size [.int .i64 m.1, .int .i64 m.2.1, .int .i64 m.2.2.1, .int .i64 m.2.2.2.1, .int .i64 m.2.2.2.2.1, .int .i64 m.2.2.2.2.2.1, .int .i64 m.2.2.2.2.2.2.1, .int .i64 m.2.2.2.2.2.2.2.1, .int .i64 m.2.2.2.2.2.2.2.2] w14 := B0_13.kept k14 (by omega)
          have B1_14 : Arr (w.heap.size + 1) [.int .i64 0, .int .i64 0, .int .i64 0, .int .i64 0] w14 := B1_13.kept k14 (by omega)
          have z14 := B1_14.lies
          clear c27_B0_1 c27_B0_3 K13 f13 B0_13 B1_13 k14
          go_wp2_with fail
          refine wp_region_held_drew (S := fun w' => Arr w.heap.size [.int .i64 m.1, .int .i64 m.2.1, .int .i64 m.2.2.1, .int .i64 m.2.2.2.1, .int .i64 m.2.2.2.2.1, .int .i64 m.2.2.2.2.2.1, .int .i64 m.2.2.2.2.2.2.1, .int .i64 m.2.2.2.2.2.2.2.1, .int .i64 m.2.2.2.2.2.2.2.2] w') (by kernel_rfl) ((B0_14.alloc _).alloc _).drew (fun hHeld => ?_)
          refine take_at (i := 0) (v := ?v289) rfl (by kernel_rfl) (by kernel_rfl) (by kernel_rfl) (fun _ _ _ h => h) (Or.inl ⟨by rfl, ?y289⟩) hHeld ?t289
          case y289 => (intro wx hSw; go_simp <;> with_reducible rfl)
          simp only [Act.put, List.setIfInBounds_toArray, List.set_cons_zero, List.set_cons_succ]
          refine take_at (i := 1) (v := ?v290) rfl (by kernel_rfl) (by kernel_rfl) (by kernel_rfl) (fun _ _ _ h => h) (Or.inl ⟨by rfl, ?y290⟩) hHeld ?t290
          case y290 => (intro wx hSw; go_simp <;> with_reducible rfl)
          simp only [Act.put, List.setIfInBounds_toArray, List.set_cons_zero, List.set_cons_succ]
          refine take_at (i := 2) (v := ?v291) rfl (by kernel_rfl) (by kernel_rfl) (by kernel_rfl) (fun _ _ _ h => h) (Or.inl ⟨by rfl, ?y291⟩) hHeld ?t291
          case y291 => (intro wx hSw; go_simp <;> with_reducible rfl)
          simp only [Act.put, List.setIfInBounds_toArray, List.set_cons_zero, List.set_cons_succ]
          refine take_at (i := 3) (v := ?v292) rfl (by kernel_rfl) (by kernel_rfl) (by kernel_rfl) (fun _ _ _ h => h) (Or.inl ⟨by rfl, ?y292⟩) hHeld ?t292
          case y292 => (intro wx hSw; go_simp <;> with_reducible rfl)
          simp only [Act.put, List.setIfInBounds_toArray, List.set_cons_zero, List.set_cons_succ]
          refine take_at (i := 4) (v := ?v293) rfl (by kernel_rfl) (by kernel_rfl) (by kernel_rfl) (fun _ _ _ h => h) (Or.inl ⟨by rfl, ?y293⟩) hHeld ?t293
          case y293 => (intro wx hSw; go_simp <;> with_reducible rfl)
          simp only [Act.put, List.setIfInBounds_toArray, List.set_cons_zero, List.set_cons_succ]
          refine take_at (i := 5) (v := ?v294) rfl (by kernel_rfl) (by kernel_rfl) (by kernel_rfl) (fun _ _ _ h => h) (Or.inl ⟨by rfl, ?y294⟩) hHeld ?t294
          case y294 => (intro wx hSw; go_simp <;> with_reducible rfl)
          simp only [Act.put, List.setIfInBounds_toArray, List.set_cons_zero, List.set_cons_succ]
          refine take_at (i := 6) (v := ?v295) rfl (by kernel_rfl) (by kernel_rfl) (by kernel_rfl) (fun _ _ _ h => h) (Or.inl ⟨by rfl, ?y295⟩) hHeld ?t295
          case y295 => (intro wx hSw; go_simp <;> with_reducible rfl)
          simp only [Act.put, List.setIfInBounds_toArray, List.set_cons_zero, List.set_cons_succ]
          refine take_at (i := 7) (v := ?v296) rfl (by kernel_rfl) (by kernel_rfl) (by kernel_rfl) (fun _ _ _ h => h) (Or.inl ⟨by rfl, ?y296⟩) hHeld ?t296
          case y296 => (intro wx hSw; go_simp <;> with_reducible rfl)
          simp only [Act.put, List.setIfInBounds_toArray, List.set_cons_zero, List.set_cons_succ]
          refine take_at (i := 8) (v := ?v297) rfl (by kernel_rfl) (by kernel_rfl) (by kernel_rfl) (fun _ _ _ h => h) (Or.inl ⟨by rfl, ?y297⟩) hHeld ?t297
          case y297 => (intro wx hSw; have hc8 : wx.cell? ⟨w.heap.size, 8, none⟩ = some (.int .i64 m.2.2.2.2.2.2.2.2) := hSw.c 8 (of_decide_eq_true rfl); go_simp <;> with_reducible rfl)
          simp only [Act.put, List.setIfInBounds_toArray, List.set_cons_zero, List.set_cons_succ]
          refine take_at (i := 10) (v := ?v298) rfl (by kernel_rfl) (by kernel_rfl) (by kernel_rfl) (fun _ _ _ h => h) (Or.inl ⟨by rfl, ?y298⟩) hHeld ?t298
          case y298 => (intro wx hSw; go_simp <;> with_reducible rfl)
          simp only [Act.put, List.setIfInBounds_toArray, List.set_cons_zero, List.set_cons_succ]
          refine take_at (i := 11) (v := ?v299) rfl (by kernel_rfl) (by kernel_rfl) (by kernel_rfl) (fun _ _ _ h => h) (Or.inl ⟨by rfl, ?y299⟩) hHeld ?t299
          case y299 => (intro wx hSw; go_simp <;> with_reducible rfl)
          simp only [Act.put, List.setIfInBounds_toArray, List.set_cons_zero, List.set_cons_succ]
          refine take_at (i := 12) (v := ?v300) rfl (by kernel_rfl) (by kernel_rfl) (by kernel_rfl) (fun _ _ _ h => h) (Or.inl ⟨by rfl, ?y300⟩) hHeld ?t300
          case y300 => (intro wx hSw; go_simp <;> with_reducible rfl)
          simp only [Act.put, List.setIfInBounds_toArray, List.set_cons_zero, List.set_cons_succ]
          refine take_at (i := 13) (v := ?v301) rfl (by kernel_rfl) (by kernel_rfl) (by kernel_rfl) (fun _ _ _ h => h) (Or.inl ⟨by rfl, ?y301⟩) hHeld ?t301
          case y301 => (intro wx hSw; go_simp <;> with_reducible rfl)
          simp only [Act.put, List.setIfInBounds_toArray, List.set_cons_zero, List.set_cons_succ]
          refine take_at (i := 14) (v := ?v302) rfl (by kernel_rfl) (by kernel_rfl) (by kernel_rfl) (fun _ _ _ h => h) (Or.inl ⟨by rfl, ?y302⟩) hHeld ?t302
          case y302 => (intro wx hSw; have hc0 : wx.cell? ⟨w.heap.size, 0, none⟩ = some (.int .i64 m.1) := hSw.c 0 (of_decide_eq_true rfl); go_simp <;> with_reducible rfl)
          simp only [Act.put, List.setIfInBounds_toArray, List.set_cons_zero, List.set_cons_succ]
          refine take_at (i := 16) (v := ?v303) rfl (by kernel_rfl) (by kernel_rfl) (by kernel_rfl) (fun _ _ _ h => h) (Or.inl ⟨by rfl, ?y303⟩) hHeld ?t303
          case y303 => (intro wx hSw; go_simp <;> with_reducible rfl)
          simp only [Act.put, List.setIfInBounds_toArray, List.set_cons_zero, List.set_cons_succ]
          refine take_at (i := 17) (v := ?v304) rfl (by kernel_rfl) (by kernel_rfl) (by kernel_rfl) (fun _ _ _ h => h) (Or.inl ⟨by rfl, ?y304⟩) hHeld ?t304
          case y304 => (intro wx hSw; go_simp <;> with_reducible rfl)
          simp only [Act.put, List.setIfInBounds_toArray, List.set_cons_zero, List.set_cons_succ]
          refine take_at (i := 18) (v := ?v305) rfl (by kernel_rfl) (by kernel_rfl) (by kernel_rfl) (fun _ _ _ h => h) (Or.inl ⟨by rfl, ?y305⟩) hHeld ?t305
          case y305 => (intro wx hSw; go_simp <;> with_reducible rfl)
          simp only [Act.put, List.setIfInBounds_toArray, List.set_cons_zero, List.set_cons_succ]
          refine take_at (i := 19) (v := ?v306) rfl (by kernel_rfl) (by kernel_rfl) (by kernel_rfl) (fun _ _ _ h => h) (Or.inl ⟨by rfl, ?y306⟩) hHeld ?t306
          case y306 => (intro wx hSw; go_simp <;> with_reducible rfl)
          simp only [Act.put, List.setIfInBounds_toArray, List.set_cons_zero, List.set_cons_succ]
          refine take_at (i := 20) (v := ?v307) rfl (by kernel_rfl) (by kernel_rfl) (by kernel_rfl) (fun _ _ _ h => h) (Or.inl ⟨by rfl, ?y307⟩) hHeld ?t307
          case y307 => (intro wx hSw; have hc4 : wx.cell? ⟨w.heap.size, 4, none⟩ = some (.int .i64 m.2.2.2.2.1) := hSw.c 4 (of_decide_eq_true rfl); go_simp <;> with_reducible rfl)
          simp only [Act.put, List.setIfInBounds_toArray, List.set_cons_zero, List.set_cons_succ]
          refine call_at (i := 9) (by kernel_rfl) rfl (fun K hK => ?_)
          go_simp
          refine (rAdd_any b r14.2 1099511627776 m.2.2.2.2.2.2.2.2 _ ((f14.alloc _).alloc _).drew).mono ?_
          rintro e w15 ⟨rfl, f15, k15⟩
          generalize e15 : addS r14.2 1099511627776 m.2.2.2.2.2.2.2.2 = r15 at f15 ⊢
          have E15 : Hid _ := e15
          clear e15
          have K15 : Kept b w w15 := Kept.trans ((K14.al _).al _).drew k15
          have B0_15 : Arr w.heap.size [.int .i64 m.1, .int .i64 m.2.1, .int .i64 m.2.2.1, .int .i64 m.2.2.2.1, .int .i64 m.2.2.2.2.1, .int .i64 m.2.2.2.2.2.1, .int .i64 m.2.2.2.2.2.2.1, .int .i64 m.2.2.2.2.2.2.2.1, .int .i64 m.2.2.2.2.2.2.2.2] w15 := ((B0_14.alloc _).alloc _).drew.kept k15 (by omega)
          have B1_15 : Arr (w.heap.size + 1) [.int .i64 0, .int .i64 0, .int .i64 0, .int .i64 0] w15 := ((B1_14.alloc _).alloc _).drew.kept k15 (by omega)
          have B2_15 : Arr w14.heap.size [.int .i64 0, .int .i64 0, .int .i64 0, .int .i64 0] w15 := ((Arr_at _ _ [.int .i64 0, .int .i64 0, .int .i64 0, .int .i64 0] _ (by simp)).alloc _).drew.kept k15 (by omega)
          have B3_15 : Arr (w14.heap.size + 1) [.int .i64 r12.1, .int .i64 r13.1, .int .i64 r14.1] w15 := (Arr_at _ _ [.int .i64 r12.1, .int .i64 r13.1, .int .i64 r14.1] _ (by simp)).drew.kept k15 (by omega)
          have z15 := B3_15.lies
          clear hHeld
          refine hK.out _ _ B0_15 (fun hHeld => ?_)
          clear hK K K14 f14 B0_14 B1_14 k15
          refine call_at (i := 15) (by kernel_rfl) rfl (fun K hK => ?_)
          go_simp
          refine (rSub_any b r15.2 r15.1 m.1 _ f15).mono ?_
          rintro e w16 ⟨rfl, f16, k16⟩
          generalize e16 : subS r15.2 r15.1 m.1 = r16 at f16 ⊢
          have E16 : Hid _ := e16
          clear e16
          have K16 : Kept b w w16 := Kept.trans K15 k16
          have B0_16 : Arr w.heap.size [.int .i64 m.1, .int .i64 m.2.1, .int .i64 m.2.2.1, .int .i64 m.2.2.2.1, .int .i64 m.2.2.2.2.1, .int .i64 m.2.2.2.2.2.1, .int .i64 m.2.2.2.2.2.2.1, .int .i64 m.2.2.2.2.2.2.2.1, .int .i64 m.2.2.2.2.2.2.2.2] w16 := B0_15.kept k16 (by omega)
          have B1_16 : Arr (w.heap.size + 1) [.int .i64 0, .int .i64 0, .int .i64 0, .int .i64 0] w16 := B1_15.kept k16 (by omega)
          have B2_16 : Arr w14.heap.size [.int .i64 0, .int .i64 0, .int .i64 0, .int .i64 0] w16 := B2_15.kept k16 (by omega)
          have B3_16 : Arr (w14.heap.size + 1) [.int .i64 r12.1, .int .i64 r13.1, .int .i64 r14.1] w16 := B3_15.kept k16 (by omega)
          have z16 := B3_16.lies
          clear hHeld
          refine hK.out _ _ B0_16 (fun hHeld => ?_)
          clear hK K K15 f15 B0_15 B1_15 B2_15 B3_15 k16
          refine call_at (i := 21) (by kernel_rfl) rfl (fun K hK => ?_)
          go_simp
          refine (rSub_any b r16.2 r16.1 m.2.2.2.2.1 _ f16).mono ?_
          rintro e w17 ⟨rfl, f17, k17⟩
          generalize e17 : subS r16.2 r16.1 m.2.2.2.2.1 = r17 at f17 ⊢
          have E17 : Hid _ := e17
          clear e17
          have K17 : Kept b w w17 := Kept.trans K16 k17
          have B0_17 : Arr w.heap.size [.int .i64 m.1, .int .i64 m.2.1, .int .i64 m.2.2.1, .int .i64 m.2.2.2.1, .int .i64 m.2.2.2.2.1, .int .i64 m.2.2.2.2.2.1, .int .i64 m.2.2.2.2.2.2.1, .int .i64 m.2.2.2.2.2.2.2.1, .int .i64 m.2.2.2.2.2.2.2.2] w17 := B0_16.kept k17 (by omega)
          have B1_17 : Arr (w.heap.size + 1) [.int .i64 0, .int .i64 0, .int .i64 0, .int .i64 0] w17 := B1_16.kept k17 (by omega)
          have B2_17 : Arr w14.heap.size [.int .i64 0, .int .i64 0, .int .i64 0, .int .i64 0] w17 := B2_16.kept k17 (by omega)
          have B3_17 : Arr (w14.heap.size + 1) [.int .i64 r12.1, .int .i64 r13.1, .int .i64 r14.1] w17 := B3_16.kept k17 (by omega)
          have z17 := B3_17.lies
          clear hHeld
          refine hK.out _ _ B0_17 (fun hHeld => ?_)
          clear hK K K16 f16 B0_16 B1_16 B2_16 B3_16 k17
          refine take_at (i := 22) (v := ?v308) rfl (by kernel_rfl) (by kernel_rfl) (by kernel_rfl) (fun _ _ _ h => h) (Or.inl ⟨by rfl, ?y308⟩) hHeld ?t308
          case y308 => (intro wx hSw; go_simp <;> with_reducible rfl)
          simp only [Act.put, List.setIfInBounds_toArray, List.set_cons_zero, List.set_cons_succ]
          refine call_at (i := 23) (by kernel_rfl) rfl (fun K hK => ?_)
          have c29_B2_2 : w17.cell? ⟨w14.heap.size, 2, none⟩ = some (.int .i64 0) := B2_17.c 2 (of_decide_eq_true rfl)
          have g29_B2_2 := B2_17.f 2 (of_decide_eq_true rfl)
          go_simp
          clear hHeld
          refine hK.out _ _ (B0_17.new w14.heap.size 2 (by omega) (.int .i64 r17.1)) (fun hHeld => ?_)
          clear hK K c29_B2_2 g29_B2_2
          refine wpAnyH_done (by kernel_rfl) ?_ _
          clear hHeld
          go_wp2_with fail
          refine wp_region_held_drew (S := fun w' => Arr w.heap.size [.int .i64 m.1, .int .i64 m.2.1, .int .i64 m.2.2.1, .int .i64 m.2.2.2.1, .int .i64 m.2.2.2.2.1, .int .i64 m.2.2.2.2.2.1, .int .i64 m.2.2.2.2.2.2.1, .int .i64 m.2.2.2.2.2.2.2.1, .int .i64 m.2.2.2.2.2.2.2.2] w') (by kernel_rfl) (B0_17.new w14.heap.size 2 (by omega) (.int .i64 r17.1)).drew (fun hHeld => ?_)
          refine take_at (i := 0) (v := ?v309) rfl (by kernel_rfl) (by kernel_rfl) (by kernel_rfl) (fun _ _ _ h => h) (Or.inl ⟨by rfl, ?y309⟩) hHeld ?t309
          case y309 => (intro wx hSw; go_simp <;> with_reducible rfl)
          simp only [Act.put, List.setIfInBounds_toArray, List.set_cons_zero, List.set_cons_succ]
          refine take_at (i := 1) (v := ?v310) rfl (by kernel_rfl) (by kernel_rfl) (by kernel_rfl) (fun _ _ _ h => h) (Or.inl ⟨by rfl, ?y310⟩) hHeld ?t310
          case y310 => (intro wx hSw; go_simp <;> with_reducible rfl)
          simp only [Act.put, List.setIfInBounds_toArray, List.set_cons_zero, List.set_cons_succ]
          refine take_at (i := 2) (v := ?v311) rfl (by kernel_rfl) (by kernel_rfl) (by kernel_rfl) (fun _ _ _ h => h) (Or.inl ⟨by rfl, ?y311⟩) hHeld ?t311
          case y311 => (intro wx hSw; go_simp <;> with_reducible rfl)
          simp only [Act.put, List.setIfInBounds_toArray, List.set_cons_zero, List.set_cons_succ]
          refine take_at (i := 3) (v := ?v312) rfl (by kernel_rfl) (by kernel_rfl) (by kernel_rfl) (fun _ _ _ h => h) (Or.inl ⟨by rfl, ?y312⟩) hHeld ?t312
          case y312 => (intro wx hSw; go_simp <;> with_reducible rfl)
          simp only [Act.put, List.setIfInBounds_toArray, List.set_cons_zero, List.set_cons_succ]
          refine take_at (i := 4) (v := ?v313) rfl (by kernel_rfl) (by kernel_rfl) (by kernel_rfl) (fun _ _ _ h => h) (Or.inl ⟨by rfl, ?y313⟩) hHeld ?t313
          case y313 => (intro wx hSw; go_simp <;> with_reducible rfl)
          simp only [Act.put, List.setIfInBounds_toArray, List.set_cons_zero, List.set_cons_succ]
          refine take_at (i := 5) (v := ?v314) rfl (by kernel_rfl) (by kernel_rfl) (by kernel_rfl) (fun _ _ _ h => h) (Or.inl ⟨by rfl, ?y314⟩) hHeld ?t314
          case y314 => (intro wx hSw; go_simp <;> with_reducible rfl)
          simp only [Act.put, List.setIfInBounds_toArray, List.set_cons_zero, List.set_cons_succ]
          refine take_at (i := 6) (v := ?v315) rfl (by kernel_rfl) (by kernel_rfl) (by kernel_rfl) (fun _ _ _ h => h) (Or.inl ⟨by rfl, ?y315⟩) hHeld ?t315
          case y315 => (intro wx hSw; have hc6 : wx.cell? ⟨w.heap.size, 6, none⟩ = some (.int .i64 m.2.2.2.2.2.2.1) := hSw.c 6 (of_decide_eq_true rfl); go_simp <;> with_reducible rfl)
          simp only [Act.put, List.setIfInBounds_toArray, List.set_cons_zero, List.set_cons_succ]
          refine take_at (i := 7) (v := ?v316) rfl (by kernel_rfl) (by kernel_rfl) (by kernel_rfl) (fun _ _ _ h => h) (Or.inl ⟨by rfl, ?y316⟩) hHeld ?t316
          case y316 => (intro wx hSw; go_simp <;> with_reducible rfl)
          simp only [Act.put, List.setIfInBounds_toArray, List.set_cons_zero, List.set_cons_succ]
          refine take_at (i := 8) (v := ?v317) rfl (by kernel_rfl) (by kernel_rfl) (by kernel_rfl) (fun _ _ _ h => h) (Or.inl ⟨by rfl, ?y317⟩) hHeld ?t317
          case y317 => (intro wx hSw; go_simp <;> with_reducible rfl)
          simp only [Act.put, List.setIfInBounds_toArray, List.set_cons_zero, List.set_cons_succ]
          refine take_at (i := 9) (v := ?v318) rfl (by kernel_rfl) (by kernel_rfl) (by kernel_rfl) (fun _ _ _ h => h) (Or.inl ⟨by rfl, ?y318⟩) hHeld ?t318
          case y318 => (intro wx hSw; go_simp <;> with_reducible rfl)
          simp only [Act.put, List.setIfInBounds_toArray, List.set_cons_zero, List.set_cons_succ]
          refine take_at (i := 10) (v := ?v319) rfl (by kernel_rfl) (by kernel_rfl) (by kernel_rfl) (fun _ _ _ h => h) (Or.inl ⟨by rfl, ?y319⟩) hHeld ?t319
          case y319 => (intro wx hSw; go_simp <;> with_reducible rfl)
          simp only [Act.put, List.setIfInBounds_toArray, List.set_cons_zero, List.set_cons_succ]
          refine take_at (i := 11) (v := ?v320) rfl (by kernel_rfl) (by kernel_rfl) (by kernel_rfl) (fun _ _ _ h => h) (Or.inl ⟨by rfl, ?y320⟩) hHeld ?t320
          case y320 => (intro wx hSw; have hc2 : wx.cell? ⟨w.heap.size, 2, none⟩ = some (.int .i64 m.2.2.1) := hSw.c 2 (of_decide_eq_true rfl); go_simp <;> with_reducible rfl)
          simp only [Act.put, List.setIfInBounds_toArray, List.set_cons_zero, List.set_cons_succ]
          refine call_at (i := 12) (by kernel_rfl) rfl (fun K hK => ?_)
          go_simp
          refine (rAdd_any b r17.2 m.2.2.2.2.2.2.1 m.2.2.1 _ (f17.new w14.heap.size 2 (by omega) (.int .i64 r17.1)).drew).mono ?_
          rintro e w18 ⟨rfl, f18, k18⟩
          generalize e18 : addS r17.2 m.2.2.2.2.2.2.1 m.2.2.1 = r18 at f18 ⊢
          have E18 : Hid _ := e18
          clear e18
          have K18 : Kept b w w18 := Kept.trans (K17.new _ _ (by omega) _).drew k18
          have B0_18 : Arr w.heap.size [.int .i64 m.1, .int .i64 m.2.1, .int .i64 m.2.2.1, .int .i64 m.2.2.2.1, .int .i64 m.2.2.2.2.1, .int .i64 m.2.2.2.2.2.1, .int .i64 m.2.2.2.2.2.2.1, .int .i64 m.2.2.2.2.2.2.2.1, .int .i64 m.2.2.2.2.2.2.2.2] w18 := (B0_17.new w14.heap.size 2 (by omega) (.int .i64 r17.1)).drew.kept k18 (by omega)
          have B1_18 : Arr (w.heap.size + 1) [.int .i64 0, .int .i64 0, .int .i64 0, .int .i64 0] w18 := (B1_17.new w14.heap.size 2 (by omega) (.int .i64 r17.1)).drew.kept k18 (by omega)
          have B2_18 : Arr w14.heap.size [.int .i64 0, .int .i64 0, .int .i64 r17.1, .int .i64 0] w18 := (B2_17.put 2 (of_decide_eq_true rfl) (.int .i64 r17.1) [.int .i64 0, .int .i64 0, .int .i64 r17.1, .int .i64 0] rfl).drew.kept k18 (by omega)
          have B3_18 : Arr (w14.heap.size + 1) [.int .i64 r12.1, .int .i64 r13.1, .int .i64 r14.1] w18 := (B3_17.new w14.heap.size 2 (by omega) (.int .i64 r17.1)).drew.kept k18 (by omega)
          have z18 := B3_18.lies
          clear hHeld
          refine hK.out _ _ B0_18 (fun hHeld => ?_)
          clear hK K K17 f17 B0_17 B1_17 B2_17 B3_17 k18
          refine take_at (i := 13) (v := ?v321) rfl (by kernel_rfl) (by kernel_rfl) (by kernel_rfl) (fun _ _ _ h => h) (Or.inl ⟨by rfl, ?y321⟩) hHeld ?t321
          case y321 => (intro wx hSw; go_simp <;> with_reducible rfl)
          simp only [Act.put, List.setIfInBounds_toArray, List.set_cons_zero, List.set_cons_succ]
          refine call_at (i := 14) (by kernel_rfl) rfl (fun K hK => ?_)
          have c31_B2_0 : w18.cell? ⟨w14.heap.size, 0, none⟩ = some (.int .i64 0) := B2_18.c 0 (of_decide_eq_true rfl)
          have g31_B2_0 := B2_18.f 0 (of_decide_eq_true rfl)
          go_simp
          clear hHeld
          refine hK.out _ _ (B0_18.new w14.heap.size 0 (by omega) (.int .i64 r18.1)) (fun hHeld => ?_)
          clear hK K c31_B2_0 g31_B2_0
          refine wpAnyH_done (by kernel_rfl) ?_ _
          clear hHeld
          go_wp2_with fail
          refine wp_region_held_drew (S := fun w' => Arr w.heap.size [.int .i64 m.1, .int .i64 m.2.1, .int .i64 m.2.2.1, .int .i64 m.2.2.2.1, .int .i64 m.2.2.2.2.1, .int .i64 m.2.2.2.2.2.1, .int .i64 m.2.2.2.2.2.2.1, .int .i64 m.2.2.2.2.2.2.2.1, .int .i64 m.2.2.2.2.2.2.2.2] w') (by kernel_rfl) (B0_18.new w14.heap.size 0 (by omega) (.int .i64 r18.1)).drew (fun hHeld => ?_)
          refine take_at (i := 0) (v := ?v322) rfl (by kernel_rfl) (by kernel_rfl) (by kernel_rfl) (fun _ _ _ h => h) (Or.inl ⟨by rfl, ?y322⟩) hHeld ?t322
          case y322 => (intro wx hSw; go_simp <;> with_reducible rfl)
          simp only [Act.put, List.setIfInBounds_toArray, List.set_cons_zero, List.set_cons_succ]
          refine take_at (i := 1) (v := ?v323) rfl (by kernel_rfl) (by kernel_rfl) (by kernel_rfl) (fun _ _ _ h => h) (Or.inl ⟨by rfl, ?y323⟩) hHeld ?t323
          case y323 => (intro wx hSw; go_simp <;> with_reducible rfl)
          simp only [Act.put, List.setIfInBounds_toArray, List.set_cons_zero, List.set_cons_succ]
          refine take_at (i := 2) (v := ?v324) rfl (by kernel_rfl) (by kernel_rfl) (by kernel_rfl) (fun _ _ _ h => h) (Or.inl ⟨by rfl, ?y324⟩) hHeld ?t324
          case y324 => (intro wx hSw; go_simp <;> with_reducible rfl)
          simp only [Act.put, List.setIfInBounds_toArray, List.set_cons_zero, List.set_cons_succ]
          refine take_at (i := 3) (v := ?v325) rfl (by kernel_rfl) (by kernel_rfl) (by kernel_rfl) (fun _ _ _ h => h) (Or.inl ⟨by rfl, ?y325⟩) hHeld ?t325
          case y325 => (intro wx hSw; go_simp <;> with_reducible rfl)
          simp only [Act.put, List.setIfInBounds_toArray, List.set_cons_zero, List.set_cons_succ]
          refine take_at (i := 4) (v := ?v326) rfl (by kernel_rfl) (by kernel_rfl) (by kernel_rfl) (fun _ _ _ h => h) (Or.inl ⟨by rfl, ?y326⟩) hHeld ?t326
          case y326 => (intro wx hSw; go_simp <;> with_reducible rfl)
          simp only [Act.put, List.setIfInBounds_toArray, List.set_cons_zero, List.set_cons_succ]
          refine take_at (i := 5) (v := ?v327) rfl (by kernel_rfl) (by kernel_rfl) (by kernel_rfl) (fun _ _ _ h => h) (Or.inl ⟨by rfl, ?y327⟩) hHeld ?t327
          case y327 => (intro wx hSw; go_simp <;> with_reducible rfl)
          simp only [Act.put, List.setIfInBounds_toArray, List.set_cons_zero, List.set_cons_succ]
          refine take_at (i := 6) (v := ?v328) rfl (by kernel_rfl) (by kernel_rfl) (by kernel_rfl) (fun _ _ _ h => h) (Or.inl ⟨by rfl, ?y328⟩) hHeld ?t328
          case y328 => (intro wx hSw; have hc7 : wx.cell? ⟨w.heap.size, 7, none⟩ = some (.int .i64 m.2.2.2.2.2.2.2.1) := hSw.c 7 (of_decide_eq_true rfl); go_simp <;> with_reducible rfl)
          simp only [Act.put, List.setIfInBounds_toArray, List.set_cons_zero, List.set_cons_succ]
          refine take_at (i := 7) (v := ?v329) rfl (by kernel_rfl) (by kernel_rfl) (by kernel_rfl) (fun _ _ _ h => h) (Or.inl ⟨by rfl, ?y329⟩) hHeld ?t329
          case y329 => (intro wx hSw; go_simp <;> with_reducible rfl)
          simp only [Act.put, List.setIfInBounds_toArray, List.set_cons_zero, List.set_cons_succ]
          refine take_at (i := 8) (v := ?v330) rfl (by kernel_rfl) (by kernel_rfl) (by kernel_rfl) (fun _ _ _ h => h) (Or.inl ⟨by rfl, ?y330⟩) hHeld ?t330
          case y330 => (intro wx hSw; go_simp <;> with_reducible rfl)
          simp only [Act.put, List.setIfInBounds_toArray, List.set_cons_zero, List.set_cons_succ]
          refine take_at (i := 9) (v := ?v331) rfl (by kernel_rfl) (by kernel_rfl) (by kernel_rfl) (fun _ _ _ h => h) (Or.inl ⟨by rfl, ?y331⟩) hHeld ?t331
          case y331 => (intro wx hSw; go_simp <;> with_reducible rfl)
          simp only [Act.put, List.setIfInBounds_toArray, List.set_cons_zero, List.set_cons_succ]
          refine take_at (i := 10) (v := ?v332) rfl (by kernel_rfl) (by kernel_rfl) (by kernel_rfl) (fun _ _ _ h => h) (Or.inl ⟨by rfl, ?y332⟩) hHeld ?t332
          case y332 => (intro wx hSw; go_simp <;> with_reducible rfl)
          simp only [Act.put, List.setIfInBounds_toArray, List.set_cons_zero, List.set_cons_succ]
          refine take_at (i := 11) (v := ?v333) rfl (by kernel_rfl) (by kernel_rfl) (by kernel_rfl) (fun _ _ _ h => h) (Or.inl ⟨by rfl, ?y333⟩) hHeld ?t333
          case y333 => (intro wx hSw; have hc5 : wx.cell? ⟨w.heap.size, 5, none⟩ = some (.int .i64 m.2.2.2.2.2.1) := hSw.c 5 (of_decide_eq_true rfl); go_simp <;> with_reducible rfl)
          simp only [Act.put, List.setIfInBounds_toArray, List.set_cons_zero, List.set_cons_succ]
          refine call_at (i := 12) (by kernel_rfl) rfl (fun K hK => ?_)
          go_simp
          refine (rAdd_any b r18.2 m.2.2.2.2.2.2.2.1 m.2.2.2.2.2.1 _ (f18.new w14.heap.size 0 (by omega) (.int .i64 r18.1)).drew).mono ?_
          rintro e w19 ⟨rfl, f19, k19⟩
          generalize e19 : addS r18.2 m.2.2.2.2.2.2.2.1 m.2.2.2.2.2.1 = r19 at f19 ⊢
          have E19 : Hid _ := e19
          clear e19
          have K19 : Kept b w w19 := Kept.trans (K18.new _ _ (by omega) _).drew k19
          have B0_19 : Arr w.heap.size [.int .i64 m.1, .int .i64 m.2.1, .int .i64 m.2.2.1, .int .i64 m.2.2.2.1, .int .i64 m.2.2.2.2.1, .int .i64 m.2.2.2.2.2.1, .int .i64 m.2.2.2.2.2.2.1, .int .i64 m.2.2.2.2.2.2.2.1, .int .i64 m.2.2.2.2.2.2.2.2] w19 := (B0_18.new w14.heap.size 0 (by omega) (.int .i64 r18.1)).drew.kept k19 (by omega)
          have B1_19 : Arr (w.heap.size + 1) [.int .i64 0, .int .i64 0, .int .i64 0, .int .i64 0] w19 := (B1_18.new w14.heap.size 0 (by omega) (.int .i64 r18.1)).drew.kept k19 (by omega)
          have B2_19 : Arr w14.heap.size [.int .i64 r18.1, .int .i64 0, .int .i64 r17.1, .int .i64 0] w19 := (B2_18.put 0 (of_decide_eq_true rfl) (.int .i64 r18.1) [.int .i64 r18.1, .int .i64 0, .int .i64 r17.1, .int .i64 0] rfl).drew.kept k19 (by omega)
          have B3_19 : Arr (w14.heap.size + 1) [.int .i64 r12.1, .int .i64 r13.1, .int .i64 r14.1] w19 := (B3_18.new w14.heap.size 0 (by omega) (.int .i64 r18.1)).drew.kept k19 (by omega)
          have z19 := B3_19.lies
          clear hHeld
          refine hK.out _ _ B0_19 (fun hHeld => ?_)
          clear hK K K18 f18 B0_18 B1_18 B2_18 B3_18 k19
          refine take_at (i := 13) (v := ?v334) rfl (by kernel_rfl) (by kernel_rfl) (by kernel_rfl) (fun _ _ _ h => h) (Or.inl ⟨by rfl, ?y334⟩) hHeld ?t334
          case y334 => (intro wx hSw; go_simp <;> with_reducible rfl)
          simp only [Act.put, List.setIfInBounds_toArray, List.set_cons_zero, List.set_cons_succ]
          refine call_at (i := 14) (by kernel_rfl) rfl (fun K hK => ?_)
          have c33_B2_1 : w19.cell? ⟨w14.heap.size, 1, none⟩ = some (.int .i64 0) := B2_19.c 1 (of_decide_eq_true rfl)
          have g33_B2_1 := B2_19.f 1 (of_decide_eq_true rfl)
          go_simp
          clear hHeld
          refine hK.out _ _ (B0_19.new w14.heap.size 1 (by omega) (.int .i64 r19.1)) (fun hHeld => ?_)
          clear hK K c33_B2_1 g33_B2_1
          refine wpAnyH_done (by kernel_rfl) ?_ _
          clear hHeld
          have c34_B2_0 : w19.cell? ⟨w14.heap.size, 0, none⟩ = some (.int .i64 r18.1) := B2_19.c 0 (of_decide_eq_true rfl)
          have c34_B2_1 : w19.cell? ⟨w14.heap.size, 1, none⟩ = some (.int .i64 0) := B2_19.c 1 (of_decide_eq_true rfl)
          have c34_B2_2 : w19.cell? ⟨w14.heap.size, 2, none⟩ = some (.int .i64 r17.1) := B2_19.c 2 (of_decide_eq_true rfl)
          have c34_B2_3 : w19.cell? ⟨w14.heap.size, 3, none⟩ = some (.int .i64 0) := B2_19.c 3 (of_decide_eq_true rfl)
          have c34_B3_2 : w19.cell? ⟨w14.heap.size + 1, 2, none⟩ = some (.int .i64 r14.1) := B3_19.c 2 (of_decide_eq_true rfl)
          have g34_B2_3 := B2_19.f 3 (of_decide_eq_true rfl)
          go_wp2_with fail
          refine (xUnit_any b r19.2 (r18.1, r19.1, r17.1, r14.1) _ ((f19.new w14.heap.size 1 (by omega) (.int .i64 r19.1)).new w14.heap.size 3 (by omega) (.int .i64 r14.1))).mono ?_
          rintro e w20 ⟨rfl, f20, k20⟩
          generalize e20 : xUnitS r19.2 (r18.1, r19.1, r17.1, r14.1) = r20 at f20 ⊢
          have E20 : Hid _ := e20
          clear e20
          have K20 : Kept b w w20 := Kept.trans ((K19.new _ _ (by omega) _).new _ _ (by omega) _) k20
          have B0_20 : Arr w.heap.size [.int .i64 m.1, .int .i64 m.2.1, .int .i64 m.2.2.1, .int .i64 m.2.2.2.1, .int .i64 m.2.2.2.2.1, .int .i64 m.2.2.2.2.2.1, .int .i64 m.2.2.2.2.2.2.1, .int .i64 m.2.2.2.2.2.2.2.1, .int .i64 m.2.2.2.2.2.2.2.2] w20 := ((B0_19.new w14.heap.size 1 (by omega) (.int .i64 r19.1)).new w14.heap.size 3 (by omega) (.int .i64 r14.1)).kept k20 (by omega)
          have B1_20 : Arr (w.heap.size + 1) [.int .i64 0, .int .i64 0, .int .i64 0, .int .i64 0] w20 := ((B1_19.new w14.heap.size 1 (by omega) (.int .i64 r19.1)).new w14.heap.size 3 (by omega) (.int .i64 r14.1)).kept k20 (by omega)
          have B2_20 : Arr w14.heap.size [.int .i64 r18.1, .int .i64 r19.1, .int .i64 r17.1, .int .i64 r14.1] w20 := ((B2_19.put 1 (of_decide_eq_true rfl) (.int .i64 r19.1) [.int .i64 r18.1, .int .i64 r19.1, .int .i64 r17.1, .int .i64 0] rfl).put 3 (of_decide_eq_true rfl) (.int .i64 r14.1) [.int .i64 r18.1, .int .i64 r19.1, .int .i64 r17.1, .int .i64 r14.1] rfl).kept k20 (by omega)
          have B3_20 : Arr (w14.heap.size + 1) [.int .i64 r12.1, .int .i64 r13.1, .int .i64 r14.1] w20 := ((B3_19.new w14.heap.size 1 (by omega) (.int .i64 r19.1)).new w14.heap.size 3 (by omega) (.int .i64 r14.1)).kept k20 (by omega)
          have z20 := B3_20.lies
          clear c34_B2_0 c34_B2_1 c34_B2_2 c34_B2_3 c34_B3_2 g34_B2_3 K19 f19 B0_19 B1_19 B2_19 B3_19 k20
          have c35_B1_0 : w20.cell? ⟨w.heap.size + 1, 0, none⟩ = some (.int .i64 0) := B1_20.c 0 (of_decide_eq_true rfl)
          have c35_B1_1 : w20.cell? ⟨w.heap.size + 1, 1, none⟩ = some (.int .i64 0) := B1_20.c 1 (of_decide_eq_true rfl)
          have c35_B1_2 : w20.cell? ⟨w.heap.size + 1, 2, none⟩ = some (.int .i64 0) := B1_20.c 2 (of_decide_eq_true rfl)
          have c35_B1_3 : w20.cell? ⟨w.heap.size + 1, 3, none⟩ = some (.int .i64 0) := B1_20.c 3 (of_decide_eq_true rfl)
          have g35_B1_0 := B1_20.f 0 (of_decide_eq_true rfl)
          have g35_B1_1 := B1_20.f 1 (of_decide_eq_true rfl)
          have g35_B1_2 := B1_20.f 2 (of_decide_eq_true rfl)
          have g35_B1_3 := B1_20.f 3 (of_decide_eq_true rfl)
          go_wp2_with (with_reducible refine post_stop ?_)
          refine Stop.mk ?_
          clear c35_B1_0 c35_B1_1 c35_B1_2 c35_B1_3 g35_B1_0 g35_B1_1 g35_B1_2 g35_B1_3
          refine bodyPost_ret (v := .agg #[.int .i64 r20.1.1, .int .i64 r20.1.2.1, .int .i64 r20.1.2.2.1, .int .i64 r20.1.2.2.2]) (results_arr Try.results29 ((((B1_20.put 0 (of_decide_eq_true rfl) (.int .i64 r20.1.1) [.int .i64 r20.1.1, .int .i64 0, .int .i64 0, .int .i64 0] rfl).put 1 (of_decide_eq_true rfl) (.int .i64 r20.1.2.1) [.int .i64 r20.1.1, .int .i64 r20.1.2.1, .int .i64 0, .int .i64 0] rfl).put 2 (of_decide_eq_true rfl) (.int .i64 r20.1.2.2.1) [.int .i64 r20.1.1, .int .i64 r20.1.2.1, .int .i64 r20.1.2.2.1, .int .i64 0] rfl).put 3 (of_decide_eq_true rfl) (.int .i64 r20.1.2.2.2) [.int .i64 r20.1.1, .int .i64 r20.1.2.1, .int .i64 r20.1.2.2.1, .int .i64 r20.1.2.2.2] rfl) rfl (by kernel_rfl) (by kernel_rfl)) rfl ?_
          have hs : xFromMatrixS bad m = (r20.1, r20.2) := by unfold xFromMatrixS; simp only [E1.out, E2.out, E3.out, E4.out, E5.out, E6.out, E7.out, E8.out, E9.out, E10.out, E11.out, E12.out, E13.out, E14.out, E15.out, E16.out, E17.out, E18.out, E19.out, E20.out]; rw [if_neg (by rw [Hhc1.out]; decide)]; rw [if_neg (by have := Hhc2.out; omega)]; rw [if_neg (by have := Hhc3.out; omega)]; rw [if_pos (by have := Hhc4.out; omega)]
          rw [hs]
          exact ⟨rfl, ((((f20.new (w.heap.size + 1) 0 (by omega) (.int .i64 r20.1.1)).new (w.heap.size + 1) 1 (by omega) (.int .i64 r20.1.2.1)).new (w.heap.size + 1) 2 (by omega) (.int .i64 r20.1.2.2.1)).new (w.heap.size + 1) 3 (by omega) (.int .i64 r20.1.2.2.2)), ((((K20.new _ _ (by omega) _).new _ _ (by omega) _).new _ _ (by omega) _).new _ _ (by omega) _)⟩
        · have Hhc4 : Hid (¬ m.2.2.2.2.2.2.2.2 > r2.1) := hc4
          have c24_B0_8 : w11.cell? ⟨w.heap.size, 8, none⟩ = some (.int .i64 m.2.2.2.2.2.2.2.2) := B0_11.c 8 (of_decide_eq_true rfl)
          go_wp2_with fail
          clear c24_B0_8
          rw [rounds_succ]
          have c25_B0_5 : w11.cell? ⟨w.heap.size, 5, none⟩ = some (.int .i64 m.2.2.2.2.2.1) := B0_11.c 5 (of_decide_eq_true rfl)
          have c25_B0_7 : w11.cell? ⟨w.heap.size, 7, none⟩ = some (.int .i64 m.2.2.2.2.2.2.2.1) := B0_11.c 7 (of_decide_eq_true rfl)
          go_wp2_with fail
          refine (rSub_any b r11.2 m.2.2.2.2.2.1 m.2.2.2.2.2.2.2.1 _ f11).mono ?_
          rintro e w12 ⟨rfl, f12, k12⟩
          generalize e12 : subS r11.2 m.2.2.2.2.2.1 m.2.2.2.2.2.2.2.1 = r12 at f12 ⊢
          have E12 : Hid _ := e12
          clear e12
          have K12 : Kept b w w12 := Kept.trans K11 k12
          have B0_12 : Arr w.heap.size [.int .i64 m.1, .int .i64 m.2.1, .int .i64 m.2.2.1, .int .i64 m.2.2.2.1, .int .i64 m.2.2.2.2.1, .int .i64 m.2.2.2.2.2.1, .int .i64 m.2.2.2.2.2.2.1, .int .i64 m.2.2.2.2.2.2.2.1, .int .i64 m.2.2.2.2.2.2.2.2] w12 := B0_11.kept k12 (by omega)
          have B1_12 : Arr (w.heap.size + 1) [.int .i64 0, .int .i64 0, .int .i64 0, .int .i64 0] w12 := B1_11.kept k12 (by omega)
          have z12 := B1_12.lies
          clear c25_B0_5 c25_B0_7 K11 f11 B0_11 B1_11 k12
          have c26_B0_2 : w12.cell? ⟨w.heap.size, 2, none⟩ = some (.int .i64 m.2.2.1) := B0_12.c 2 (of_decide_eq_true rfl)
          have c26_B0_6 : w12.cell? ⟨w.heap.size, 6, none⟩ = some (.int .i64 m.2.2.2.2.2.2.1) := B0_12.c 6 (of_decide_eq_true rfl)
          go_wp2_with fail
          refine (rSub_any b r12.2 m.2.2.2.2.2.2.1 m.2.2.1 _ f12).mono ?_
          rintro e w13 ⟨rfl, f13, k13⟩
          generalize e13 : subS r12.2 m.2.2.2.2.2.2.1 m.2.2.1 = r13 at f13 ⊢
          have E13 : Hid _ := e13
          clear e13
          have K13 : Kept b w w13 := Kept.trans K12 k13
          have B0_13 : Arr w.heap.size [.int .i64 m.1, .int .i64 m.2.1, .int .i64 m.2.2.1, .int .i64 m.2.2.2.1, .int .i64 m.2.2.2.2.1, .int .i64 m.2.2.2.2.2.1, .int .i64 m.2.2.2.2.2.2.1, .int .i64 m.2.2.2.2.2.2.2.1, .int .i64 m.2.2.2.2.2.2.2.2] w13 := B0_12.kept k13 (by omega)
          have B1_13 : Arr (w.heap.size + 1) [.int .i64 0, .int .i64 0, .int .i64 0, .int .i64 0] w13 := B1_12.kept k13 (by omega)
          have z13 := B1_13.lies
          clear c26_B0_2 c26_B0_6 K12 f12 B0_12 B1_12 k13
          have c27_B0_1 : w13.cell? ⟨w.heap.size, 1, none⟩ = some (.int .i64 m.2.1) := B0_13.c 1 (of_decide_eq_true rfl)
          have c27_B0_3 : w13.cell? ⟨w.heap.size, 3, none⟩ = some (.int .i64 m.2.2.2.1) := B0_13.c 3 (of_decide_eq_true rfl)
          go_wp2_with fail
          refine (rSub_any b r13.2 m.2.1 m.2.2.2.1 _ f13).mono ?_
          rintro e w14 ⟨rfl, f14, k14⟩
          generalize e14 : subS r13.2 m.2.1 m.2.2.2.1 = r14 at f14 ⊢
          have E14 : Hid _ := e14
          clear e14
          have K14 : Kept b w w14 := Kept.trans K13 k14
          have B0_14 : Arr w.heap.size [.int .i64 m.1, .int .i64 m.2.1, .int .i64 m.2.2.1, .int .i64 m.2.2.2.1, .int .i64 m.2.2.2.2.1, .int .i64 m.2.2.2.2.2.1, .int .i64 m.2.2.2.2.2.2.1, .int .i64 m.2.2.2.2.2.2.2.1, .int .i64 m.2.2.2.2.2.2.2.2] w14 := B0_13.kept k14 (by omega)
          have B1_14 : Arr (w.heap.size + 1) [.int .i64 0, .int .i64 0, .int .i64 0, .int .i64 0] w14 := B1_13.kept k14 (by omega)
          have z14 := B1_14.lies
          clear c27_B0_1 c27_B0_3 K13 f13 B0_13 B1_13 k14
          go_wp2_with fail
          refine (rAdd_any b r14.2 1099511627776 r2.1 _ (f14.alloc _)).mono ?_
          rintro e w15 ⟨rfl, f15, k15⟩
          generalize e15 : addS r14.2 1099511627776 r2.1 = r15 at f15 ⊢
          have E15 : Hid _ := e15
          clear e15
          have K15 : Kept b w w15 := Kept.trans (K14.al _) k15
          have B0_15 : Arr w.heap.size [.int .i64 m.1, .int .i64 m.2.1, .int .i64 m.2.2.1, .int .i64 m.2.2.2.1, .int .i64 m.2.2.2.2.1, .int .i64 m.2.2.2.2.2.1, .int .i64 m.2.2.2.2.2.2.1, .int .i64 m.2.2.2.2.2.2.2.1, .int .i64 m.2.2.2.2.2.2.2.2] w15 := (B0_14.alloc _).kept k15 (by omega)
          have B1_15 : Arr (w.heap.size + 1) [.int .i64 0, .int .i64 0, .int .i64 0, .int .i64 0] w15 := (B1_14.alloc _).kept k15 (by omega)
          have B2_15 : Arr w14.heap.size [.int .i64 0, .int .i64 0, .int .i64 0, .int .i64 0] w15 := (Arr_at _ _ [.int .i64 0, .int .i64 0, .int .i64 0, .int .i64 0] _ (by simp)).kept k15 (by omega)
          have z15 := B2_15.lies
          clear K14 f14 B0_14 B1_14 k15
          have c29_B2_0 : w15.cell? ⟨w14.heap.size, 0, none⟩ = some (.int .i64 0) := B2_15.c 0 (of_decide_eq_true rfl)
          have c29_B2_1 : w15.cell? ⟨w14.heap.size, 1, none⟩ = some (.int .i64 0) := B2_15.c 1 (of_decide_eq_true rfl)
          have c29_B2_2 : w15.cell? ⟨w14.heap.size, 2, none⟩ = some (.int .i64 0) := B2_15.c 2 (of_decide_eq_true rfl)
          have c29_B2_3 : w15.cell? ⟨w14.heap.size, 3, none⟩ = some (.int .i64 0) := B2_15.c 3 (of_decide_eq_true rfl)
          have g29_B2_0 := B2_15.f 0 (of_decide_eq_true rfl)
          have g29_B2_1 := B2_15.f 1 (of_decide_eq_true rfl)
          have g29_B2_2 := B2_15.f 2 (of_decide_eq_true rfl)
          have g29_B2_3 := B2_15.f 3 (of_decide_eq_true rfl)
          go_wp2_with fail
          refine (xUnit_any b r15.2 (r12.1, r13.1, r14.1, r15.1) _ ((((f15.new w14.heap.size 0 (by omega) (.int .i64 r12.1)).new w14.heap.size 1 (by omega) (.int .i64 r13.1)).new w14.heap.size 2 (by omega) (.int .i64 r14.1)).new w14.heap.size 3 (by omega) (.int .i64 r15.1))).mono ?_
          rintro e w16 ⟨rfl, f16, k16⟩
          generalize e16 : xUnitS r15.2 (r12.1, r13.1, r14.1, r15.1) = r16 at f16 ⊢
          have E16 : Hid _ := e16
          clear e16
          have K16 : Kept b w w16 := Kept.trans ((((K15.new _ _ (by omega) _).new _ _ (by omega) _).new _ _ (by omega) _).new _ _ (by omega) _) k16
          have B0_16 : Arr w.heap.size [.int .i64 m.1, .int .i64 m.2.1, .int .i64 m.2.2.1, .int .i64 m.2.2.2.1, .int .i64 m.2.2.2.2.1, .int .i64 m.2.2.2.2.2.1, .int .i64 m.2.2.2.2.2.2.1, .int .i64 m.2.2.2.2.2.2.2.1, .int .i64 m.2.2.2.2.2.2.2.2] w16 := ((((B0_15.new w14.heap.size 0 (by omega) (.int .i64 r12.1)).new w14.heap.size 1 (by omega) (.int .i64 r13.1)).new w14.heap.size 2 (by omega) (.int .i64 r14.1)).new w14.heap.size 3 (by omega) (.int .i64 r15.1)).kept k16 (by omega)
          have B1_16 : Arr (w.heap.size + 1) [.int .i64 0, .int .i64 0, .int .i64 0, .int .i64 0] w16 := ((((B1_15.new w14.heap.size 0 (by omega) (.int .i64 r12.1)).new w14.heap.size 1 (by omega) (.int .i64 r13.1)).new w14.heap.size 2 (by omega) (.int .i64 r14.1)).new w14.heap.size 3 (by omega) (.int .i64 r15.1)).kept k16 (by omega)
          have B2_16 : Arr w14.heap.size [.int .i64 r12.1, .int .i64 r13.1, .int .i64 r14.1, .int .i64 r15.1] w16 := ((((B2_15.put 0 (of_decide_eq_true rfl) (.int .i64 r12.1) [.int .i64 r12.1, .int .i64 0, .int .i64 0, .int .i64 0] rfl).put 1 (of_decide_eq_true rfl) (.int .i64 r13.1) [.int .i64 r12.1, .int .i64 r13.1, .int .i64 0, .int .i64 0] rfl).put 2 (of_decide_eq_true rfl) (.int .i64 r14.1) [.int .i64 r12.1, .int .i64 r13.1, .int .i64 r14.1, .int .i64 0] rfl).put 3 (of_decide_eq_true rfl) (.int .i64 r15.1) [.int .i64 r12.1, .int .i64 r13.1, .int .i64 r14.1, .int .i64 r15.1] rfl).kept k16 (by omega)
          have z16 := B2_16.lies
          clear c29_B2_0 c29_B2_1 c29_B2_2 c29_B2_3 g29_B2_0 g29_B2_1 g29_B2_2 g29_B2_3 K15 f15 B0_15 B1_15 B2_15 k16
          have c30_B1_0 : w16.cell? ⟨w.heap.size + 1, 0, none⟩ = some (.int .i64 0) := B1_16.c 0 (of_decide_eq_true rfl)
          have c30_B1_1 : w16.cell? ⟨w.heap.size + 1, 1, none⟩ = some (.int .i64 0) := B1_16.c 1 (of_decide_eq_true rfl)
          have c30_B1_2 : w16.cell? ⟨w.heap.size + 1, 2, none⟩ = some (.int .i64 0) := B1_16.c 2 (of_decide_eq_true rfl)
          have c30_B1_3 : w16.cell? ⟨w.heap.size + 1, 3, none⟩ = some (.int .i64 0) := B1_16.c 3 (of_decide_eq_true rfl)
          have g30_B1_0 := B1_16.f 0 (of_decide_eq_true rfl)
          have g30_B1_1 := B1_16.f 1 (of_decide_eq_true rfl)
          have g30_B1_2 := B1_16.f 2 (of_decide_eq_true rfl)
          have g30_B1_3 := B1_16.f 3 (of_decide_eq_true rfl)
          go_wp2_with (with_reducible refine post_stop ?_)
          refine Stop.mk ?_
          clear c30_B1_0 c30_B1_1 c30_B1_2 c30_B1_3 g30_B1_0 g30_B1_1 g30_B1_2 g30_B1_3
          refine bodyPost_ret (v := .agg #[.int .i64 r16.1.1, .int .i64 r16.1.2.1, .int .i64 r16.1.2.2.1, .int .i64 r16.1.2.2.2]) (results_arr Try.results29 ((((B1_16.put 0 (of_decide_eq_true rfl) (.int .i64 r16.1.1) [.int .i64 r16.1.1, .int .i64 0, .int .i64 0, .int .i64 0] rfl).put 1 (of_decide_eq_true rfl) (.int .i64 r16.1.2.1) [.int .i64 r16.1.1, .int .i64 r16.1.2.1, .int .i64 0, .int .i64 0] rfl).put 2 (of_decide_eq_true rfl) (.int .i64 r16.1.2.2.1) [.int .i64 r16.1.1, .int .i64 r16.1.2.1, .int .i64 r16.1.2.2.1, .int .i64 0] rfl).put 3 (of_decide_eq_true rfl) (.int .i64 r16.1.2.2.2) [.int .i64 r16.1.1, .int .i64 r16.1.2.1, .int .i64 r16.1.2.2.1, .int .i64 r16.1.2.2.2] rfl) rfl (by kernel_rfl) (by kernel_rfl)) rfl ?_
          have hs : xFromMatrixS bad m = (r16.1, r16.2) := by unfold xFromMatrixS; simp only [E1.out, E2.out, E3.out, E4.out, E5.out, E6.out, E7.out, E8.out, E9.out, E10.out, E11.out, E12.out, E13.out, E14.out, E15.out, E16.out]; rw [if_neg (by rw [Hhc1.out]; decide)]; rw [if_neg (by have := Hhc2.out; omega)]; rw [if_neg (by have := Hhc3.out; omega)]; rw [if_neg (by have := Hhc4.out; omega)]
          rw [hs]
          exact ⟨rfl, ((((f16.new (w.heap.size + 1) 0 (by omega) (.int .i64 r16.1.1)).new (w.heap.size + 1) 1 (by omega) (.int .i64 r16.1.2.1)).new (w.heap.size + 1) 2 (by omega) (.int .i64 r16.1.2.2.1)).new (w.heap.size + 1) 3 (by omega) (.int .i64 r16.1.2.2.2)), ((((K16.new _ _ (by omega) _).new _ _ (by omega) _).new _ _ (by omega) _).new _ _ (by omega) _)⟩
end Go.Proofs.Ytkeijfbpkdelpaa
