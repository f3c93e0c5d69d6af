/-
  Walks of package alidaderef04, for the seat Ytkeijfbpkdelpaa. (Made by mkref04.py.)
-/
import Derived.Test.YtkeijfbpkdelpaaXBase
import Derived.Test.YtkeijfbpkdelpaaRMeth
import Derived.Test.YtkeijfbpkdelpaaRNorm
import Derived.Test.YtkeijfbpkdelpaaRFail
import Derived.Handy
import Derived.Deep.RegionHeld3
namespace Go.Proofs.Ytkeijfbpkdelpaa
open Go.RowKit

set_option maxRecDepth 100000 in
set_option maxHeartbeats 2000000 in
theorem xUnit_any (b : Nat) (bad : Bool) (q : V4) (w : World) (hw : Fl b bad w) :
    Calls Try.prog 58 #[.pointer (some ⟨b, 0, none⟩), .agg #[.int .i64 q.1, .int .i64 q.2.1, .int .i64 q.2.2.1, .int .i64 q.2.2.2]] w fun e w' => e = .returned (.agg #[.int .i64 ((xUnitS bad q).1.1), .int .i64 ((xUnitS bad q).1.2.1), .int .i64 ((xUnitS bad q).1.2.2.1), .int .i64 ((xUnitS bad q).1.2.2.2)]) ∧ Fl b (xUnitS bad q).2 w' ∧ Kept b w w' := by
  have hl := hw.lies
  go_enter Try.func58, Try.ntmps58
  go_wp2_with fail
  refine wp_region_held_drew (S := fun w' => Arr w.heap.size [.int .i64 q.1, .int .i64 q.2.1, .int .i64 q.2.2.1, .int .i64 q.2.2.2] w') (by kernel_rfl) ((Arr_at _ _ [.int .i64 q.1, .int .i64 q.2.1, .int .i64 q.2.2.1, .int .i64 q.2.2.2] _ (by simp)).alloc _).drew (fun hHeld => ?_)
  refine take_at (i := 0) (v := ?v24) rfl (by kernel_rfl) (by kernel_rfl) (by kernel_rfl) (fun _ _ _ h => h) (Or.inl ⟨by rfl, ?y24⟩) hHeld ?t24
  case y24 => (intro wx hSw; go_simp <;> with_reducible rfl)
  simp only [Act.put, List.setIfInBounds_toArray, List.set_cons_zero, List.set_cons_succ]
  refine take_at (i := 1) (v := ?v25) rfl (by kernel_rfl) (by kernel_rfl) (by kernel_rfl) (fun _ _ _ h => h) (Or.inl ⟨by rfl, ?y25⟩) hHeld ?t25
  case y25 => (intro wx hSw; go_simp <;> with_reducible rfl)
  simp only [Act.put, List.setIfInBounds_toArray, List.set_cons_zero, List.set_cons_succ]
  refine take_at (i := 2) (v := ?v26) rfl (by kernel_rfl) (by kernel_rfl) (by kernel_rfl) (fun _ _ _ h => h) (Or.inl ⟨by rfl, ?y26⟩) hHeld ?t26
  case y26 => (intro wx hSw; go_simp <;> with_reducible rfl)
  simp only [Act.put, List.setIfInBounds_toArray, List.set_cons_zero, List.set_cons_succ]
  refine take_at (i := 3) (v := ?v27) rfl (by kernel_rfl) (by kernel_rfl) (by kernel_rfl) (fun _ _ _ h => h) (Or.inl ⟨by rfl, ?y27⟩) hHeld ?t27
  case y27 => (intro wx hSw; have hc0 : wx.cell? ⟨w.heap.size, 0, none⟩ = some (.int .i64 q.1) := hSw.c 0 (of_decide_eq_true rfl); go_simp <;> with_reducible rfl)
  simp only [Act.put, List.setIfInBounds_toArray, List.set_cons_zero, List.set_cons_succ]
  refine take_at (i := 4) (v := ?v28) rfl (by kernel_rfl) (by kernel_rfl) (by kernel_rfl) (fun _ _ _ h => h) (Or.inl ⟨by rfl, ?y28⟩) hHeld ?t28
  case y28 => (intro wx hSw; go_simp <;> with_reducible rfl)
  simp only [Act.put, List.setIfInBounds_toArray, List.set_cons_zero, List.set_cons_succ]
  refine take_at (i := 5) (v := ?v29) rfl (by kernel_rfl) (by kernel_rfl) (by kernel_rfl) (fun _ _ _ h => h) (Or.inl ⟨by rfl, ?y29⟩) hHeld ?t29
  case y29 => (intro wx hSw; have hc1 : wx.cell? ⟨w.heap.size, 1, none⟩ = some (.int .i64 q.2.1) := hSw.c 1 (of_decide_eq_true rfl); go_simp <;> with_reducible rfl)
  simp only [Act.put, List.setIfInBounds_toArray, List.set_cons_zero, List.set_cons_succ]
  refine take_at (i := 6) (v := ?v30) rfl (by kernel_rfl) (by kernel_rfl) (by kernel_rfl) (fun _ _ _ h => h) (Or.inl ⟨by rfl, ?y30⟩) hHeld ?t30
  case y30 => (intro wx hSw; go_simp <;> with_reducible rfl)
  simp only [Act.put, List.setIfInBounds_toArray, List.set_cons_zero, List.set_cons_succ]
  refine take_at (i := 7) (v := ?v31) rfl (by kernel_rfl) (by kernel_rfl) (by kernel_rfl) (fun _ _ _ h => h) (Or.inl ⟨by rfl, ?y31⟩) hHeld ?t31
  case y31 => (intro wx hSw; have hc2 : wx.cell? ⟨w.heap.size, 2, none⟩ = some (.int .i64 q.2.2.1) := hSw.c 2 (of_decide_eq_true rfl); go_simp <;> with_reducible rfl)
  simp only [Act.put, List.setIfInBounds_toArray, List.set_cons_zero, List.set_cons_succ]
  refine take_at (i := 9) (v := ?v32) rfl (by kernel_rfl) (by kernel_rfl) (by kernel_rfl) (fun _ _ _ h => h) (Or.inl ⟨by rfl, ?y32⟩) hHeld ?t32
  case y32 => (intro wx hSw; go_simp <;> with_reducible rfl)
  simp only [Act.put, List.setIfInBounds_toArray, List.set_cons_zero, List.set_cons_succ]
  refine take_at (i := 10) (v := ?v33) rfl (by kernel_rfl) (by kernel_rfl) (by kernel_rfl) (fun _ _ _ h => h) (Or.inl ⟨by rfl, ?y33⟩) hHeld ?t33
  case y33 => (intro wx hSw; have hc3 : wx.cell? ⟨w.heap.size, 3, none⟩ = some (.int .i64 q.2.2.2) := hSw.c 3 (of_decide_eq_true rfl); go_simp <;> with_reducible rfl)
  simp only [Act.put, List.setIfInBounds_toArray, List.set_cons_zero, List.set_cons_succ]
  refine call_at (i := 8) (by kernel_rfl) rfl (fun K hK => ?_)
  go_simp
  refine (rNorm_any b bad q.1 q.2.1 q.2.2.1 _ ((hw.alloc _).alloc _).drew).mono ?_
  rintro e w1 ⟨rfl, f1, k1⟩
  generalize e1 : normS bad q.1 q.2.1 q.2.2.1 = r1 at f1 ⊢
  have E1 : Hid _ := e1
  clear e1
  have K1 : Kept b w w1 := Kept.trans (((Kept.refl b w).al _).al _).drew k1
  have B0_1 : Arr w.heap.size [.int .i64 q.1, .int .i64 q.2.1, .int .i64 q.2.2.1, .int .i64 q.2.2.2] w1 := ((Arr_at _ _ [.int .i64 q.1, .int .i64 q.2.1, .int .i64 q.2.2.1, .int .i64 q.2.2.2] _ (by simp)).alloc _).drew.kept k1 (by omega)
  have B1_1 : Arr (w.heap.size + 1) [.int .i64 0, .int .i64 0, .int .i64 0, .int .i64 0] w1 := (Arr_at _ _ [.int .i64 0, .int .i64 0, .int .i64 0, .int .i64 0] _ (by simp)).drew.kept k1 (by omega)
  have z1 := B1_1.lies
  clear hHeld
  refine hK.out _ _ B0_1 (fun hHeld => ?_)
  clear hK K k1
  refine call_at (i := 11) (by kernel_rfl) rfl (fun K hK => ?_)
  go_simp
  refine (rNorm_any b r1.2 r1.1 q.2.2.2 0 _ f1).mono ?_
  rintro e w2 ⟨rfl, f2, k2⟩
  generalize e2 : normS r1.2 r1.1 q.2.2.2 0 = r2 at f2 ⊢
  have E2 : Hid _ := e2
  clear e2
  have K2 : Kept b w w2 := Kept.trans K1 k2
  have B0_2 : Arr w.heap.size [.int .i64 q.1, .int .i64 q.2.1, .int .i64 q.2.2.1, .int .i64 q.2.2.2] w2 := B0_1.kept k2 (by omega)
  have B1_2 : Arr (w.heap.size + 1) [.int .i64 0, .int .i64 0, .int .i64 0, .int .i64 0] w2 := B1_1.kept k2 (by omega)
  have z2 := B1_2.lies
  clear hHeld
  refine hK.out _ _ B0_2 (fun hHeld => ?_)
  clear hK K K1 f1 B0_1 B1_1 k2
  refine take_at (i := 12) (v := ?v34) rfl (by kernel_rfl) (by kernel_rfl) (by kernel_rfl) (fun _ _ _ h => h) (Or.inl ⟨by rfl, ?y34⟩) hHeld ?t34
  case y34 => (intro wx hSw; go_simp <;> with_reducible rfl)
  simp only [Act.put, List.setIfInBounds_toArray, List.set_cons_zero, List.set_cons_succ]
  refine wpAnyH_done (by kernel_rfl) ?_ _
  clear hHeld
  by_cases hc1 : r2.1 < 549755813888
  · have Hhc1 : Hid (r2.1 < 549755813888) := hc1
    go_wp2_with fail
    refine (rFail_any b r2.2  _ f2).mono ?_
    rintro e w3 ⟨rfl, f3, k3⟩
    have K3 : Kept b w w3 := Kept.trans K2 k3
    have B0_3 : Arr w.heap.size [.int .i64 q.1, .int .i64 q.2.1, .int .i64 q.2.2.1, .int .i64 q.2.2.2] w3 := B0_2.kept k3 (by omega)
    have B1_3 : Arr (w.heap.size + 1) [.int .i64 0, .int .i64 0, .int .i64 0, .int .i64 0] w3 := B1_2.kept k3 (by omega)
    have z3 := B1_3.lies
    clear K2 f2 B0_2 B1_2 k3
    go_wp2_with fail
    refine wp_loop_rounds 5 ?_
    rw [rounds_succ]
    have c4_B0_0 : w3.cell? ⟨w.heap.size, 0, none⟩ = some (.int .i64 q.1) := B0_3.c 0 (of_decide_eq_true rfl)
    go_wp2_with fail
    refine (rDiv_any b true q.1 r2.1 _ f3).mono ?_
    rintro e w4 ⟨rfl, f4, k4⟩
    rw [divS_true] at f4 ⊢
    dsimp only at f4 ⊢
    have K4 : Kept b w w4 := Kept.trans K3 k4
    have B0_4 : Arr w.heap.size [.int .i64 q.1, .int .i64 q.2.1, .int .i64 q.2.2.1, .int .i64 q.2.2.2] w4 := B0_3.kept k4 (by omega)
    have B1_4 : Arr (w.heap.size + 1) [.int .i64 0, .int .i64 0, .int .i64 0, .int .i64 0] w4 := B1_3.kept k4 (by omega)
    have z4 := B1_4.lies
    clear c4_B0_0 K3 f3 B0_3 B1_3 k4
    have c5_B0_0 : w4.cell? ⟨w.heap.size, 0, none⟩ = some (.int .i64 q.1) := B0_4.c 0 (of_decide_eq_true rfl)
    have g5_B0_0 := B0_4.f 0 (of_decide_eq_true rfl)
    go_wp2_with fail
    clear c5_B0_0 g5_B0_0
    refine rounds_letter (S := fun w' => Kept b w w' ∧ Fl b true w' ∧ Arr w.heap.size [.int .i64 0, .int .i64 q.2.1, .int .i64 q.2.2.1, .int .i64 q.2.2.2] w' ∧ Arr (w.heap.size + 1) [.int .i64 0, .int .i64 0, .int .i64 0, .int .i64 0] w') ⟨(K4.new _ _ (by omega) _), (f4.new w.heap.size 0 (by omega) (.int .i64 0)), (B0_4.put 0 (of_decide_eq_true rfl) (.int .i64 0) [.int .i64 0, .int .i64 q.2.1, .int .i64 q.2.2.1, .int .i64 q.2.2.2] rfl), (B1_4.new w.heap.size 0 (by omega) (.int .i64 0))⟩ ?_
    rintro w5 ⟨K5, BF_5, B0_5, B1_5⟩
    have z5 := B1_5.lies
    clear K4 f4 B0_4 B1_4
    rw [rounds_succ]
    have c6_B0_1 : w5.cell? ⟨w.heap.size, 1, none⟩ = some (.int .i64 q.2.1) := B0_5.c 1 (of_decide_eq_true rfl)
    go_wp2_with fail
    refine (rDiv_any b true q.2.1 r2.1 _ BF_5).mono ?_
    rintro e w6 ⟨rfl, f6, k6⟩
    rw [divS_true] at f6 ⊢
    dsimp only at f6 ⊢
    have K6 : Kept b w w6 := Kept.trans K5 k6
    have B0_6 : Arr w.heap.size [.int .i64 0, .int .i64 q.2.1, .int .i64 q.2.2.1, .int .i64 q.2.2.2] w6 := B0_5.kept k6 (by omega)
    have B1_6 : Arr (w.heap.size + 1) [.int .i64 0, .int .i64 0, .int .i64 0, .int .i64 0] w6 := B1_5.kept k6 (by omega)
    have z6 := B1_6.lies
    clear c6_B0_1 K5 BF_5 B0_5 B1_5 k6
    have c7_B0_1 : w6.cell? ⟨w.heap.size, 1, none⟩ = some (.int .i64 q.2.1) := B0_6.c 1 (of_decide_eq_true rfl)
    have g7_B0_1 := B0_6.f 1 (of_decide_eq_true rfl)
    go_wp2_with fail
    clear c7_B0_1 g7_B0_1
    refine rounds_letter (S := fun w' => Kept b w w' ∧ Fl b true w' ∧ Arr w.heap.size [.int .i64 0, .int .i64 0, .int .i64 q.2.2.1, .int .i64 q.2.2.2] w' ∧ Arr (w.heap.size + 1) [.int .i64 0, .int .i64 0, .int .i64 0, .int .i64 0] w') ⟨(K6.new _ _ (by omega) _), (f6.new w.heap.size 1 (by omega) (.int .i64 0)), (B0_6.put 1 (of_decide_eq_true rfl) (.int .i64 0) [.int .i64 0, .int .i64 0, .int .i64 q.2.2.1, .int .i64 q.2.2.2] rfl), (B1_6.new w.heap.size 1 (by omega) (.int .i64 0))⟩ ?_
    rintro w7 ⟨K7, BF_7, B0_7, B1_7⟩
    have z7 := B1_7.lies
    clear K6 f6 B0_6 B1_6
    rw [rounds_succ]
    have c8_B0_2 : w7.cell? ⟨w.heap.size, 2, none⟩ = some (.int .i64 q.2.2.1) := B0_7.c 2 (of_decide_eq_true rfl)
    go_wp2_with fail
    refine (rDiv_any b true q.2.2.1 r2.1 _ BF_7).mono ?_
    rintro e w8 ⟨rfl, f8, k8⟩
    rw [divS_true] at f8 ⊢
    dsimp only at f8 ⊢
    have K8 : Kept b w w8 := Kept.trans K7 k8
    have B0_8 : Arr w.heap.size [.int .i64 0, .int .i64 0, .int .i64 q.2.2.1, .int .i64 q.2.2.2] w8 := B0_7.kept k8 (by omega)
    have B1_8 : Arr (w.heap.size + 1) [.int .i64 0, .int .i64 0, .int .i64 0, .int .i64 0] w8 := B1_7.kept k8 (by omega)
    have z8 := B1_8.lies
    clear c8_B0_2 K7 BF_7 B0_7 B1_7 k8
    have c9_B0_2 : w8.cell? ⟨w.heap.size, 2, none⟩ = some (.int .i64 q.2.2.1) := B0_8.c 2 (of_decide_eq_true rfl)
    have g9_B0_2 := B0_8.f 2 (of_decide_eq_true rfl)
    go_wp2_with fail
    clear c9_B0_2 g9_B0_2
    refine rounds_letter (S := fun w' => Kept b w w' ∧ Fl b true w' ∧ Arr w.heap.size [.int .i64 0, .int .i64 0, .int .i64 0, .int .i64 q.2.2.2] w' ∧ Arr (w.heap.size + 1) [.int .i64 0, .int .i64 0, .int .i64 0, .int .i64 0] w') ⟨(K8.new _ _ (by omega) _), (f8.new w.heap.size 2 (by omega) (.int .i64 0)), (B0_8.put 2 (of_decide_eq_true rfl) (.int .i64 0) [.int .i64 0, .int .i64 0, .int .i64 0, .int .i64 q.2.2.2] rfl), (B1_8.new w.heap.size 2 (by omega) (.int .i64 0))⟩ ?_
    rintro w9 ⟨K9, BF_9, B0_9, B1_9⟩
    have z9 := B1_9.lies
    clear K8 f8 B0_8 B1_8
    rw [rounds_succ]
    have c10_B0_3 : w9.cell? ⟨w.heap.size, 3, none⟩ = some (.int .i64 q.2.2.2) := B0_9.c 3 (of_decide_eq_true rfl)
    go_wp2_with fail
    refine (rDiv_any b true q.2.2.2 r2.1 _ BF_9).mono ?_
    rintro e w10 ⟨rfl, f10, k10⟩
    rw [divS_true] at f10 ⊢
    dsimp only at f10 ⊢
    have K10 : Kept b w w10 := Kept.trans K9 k10
    have B0_10 : Arr w.heap.size [.int .i64 0, .int .i64 0, .int .i64 0, .int .i64 q.2.2.2] w10 := B0_9.kept k10 (by omega)
    have B1_10 : Arr (w.heap.size + 1) [.int .i64 0, .int .i64 0, .int .i64 0, .int .i64 0] w10 := B1_9.kept k10 (by omega)
    have z10 := B1_10.lies
    clear c10_B0_3 K9 BF_9 B0_9 B1_9 k10
    have c11_B0_3 : w10.cell? ⟨w.heap.size, 3, none⟩ = some (.int .i64 q.2.2.2) := B0_10.c 3 (of_decide_eq_true rfl)
    have g11_B0_3 := B0_10.f 3 (of_decide_eq_true rfl)
    go_wp2_with fail
    clear c11_B0_3 g11_B0_3
    refine rounds_letter (S := fun w' => Kept b w w' ∧ Fl b true w' ∧ Arr w.heap.size [.int .i64 0, .int .i64 0, .int .i64 0, .int .i64 0] w' ∧ Arr (w.heap.size + 1) [.int .i64 0, .int .i64 0, .int .i64 0, .int .i64 0] w') ⟨(K10.new _ _ (by omega) _), (f10.new w.heap.size 3 (by omega) (.int .i64 0)), (B0_10.put 3 (of_decide_eq_true rfl) (.int .i64 0) [.int .i64 0, .int .i64 0, .int .i64 0, .int .i64 0] rfl), (B1_10.new w.heap.size 3 (by omega) (.int .i64 0))⟩ ?_
    rintro w11 ⟨K11, BF_11, B0_11, B1_11⟩
    have z11 := B1_11.lies
    clear K10 f10 B0_10 B1_10
    rw [rounds_succ]
    have c12_B1_0 : w11.cell? ⟨w.heap.size + 1, 0, none⟩ = some (.int .i64 0) := B1_11.c 0 (of_decide_eq_true rfl)
    have c12_B1_1 : w11.cell? ⟨w.heap.size + 1, 1, none⟩ = some (.int .i64 0) := B1_11.c 1 (of_decide_eq_true rfl)
    have c12_B1_2 : w11.cell? ⟨w.heap.size + 1, 2, none⟩ = some (.int .i64 0) := B1_11.c 2 (of_decide_eq_true rfl)
    have c12_B1_3 : w11.cell? ⟨w.heap.size + 1, 3, none⟩ = some (.int .i64 0) := B1_11.c 3 (of_decide_eq_true rfl)
    have c12_BF := BF_11.cell
    have g12_B1_0 := B1_11.f 0 (of_decide_eq_true rfl)
    have g12_B1_1 := B1_11.f 1 (of_decide_eq_true rfl)
    have g12_B1_2 := B1_11.f 2 (of_decide_eq_true rfl)
    have g12_B1_3 := B1_11.f 3 (of_decide_eq_true rfl)
    go_wp2
    clear c12_B1_0 c12_B1_1 c12_B1_2 c12_B1_3 c12_BF g12_B1_0 g12_B1_1 g12_B1_2 g12_B1_3
    have d0 := Arr.c (B1_11.put 0 (of_decide_eq_true rfl) (.int .i64 0) [.int .i64 0, .int .i64 0, .int .i64 0, .int .i64 0] rfl) 0 (of_decide_eq_true rfl)
    have d1 := Arr.c ((B1_11.put 0 (of_decide_eq_true rfl) (.int .i64 0) [.int .i64 0, .int .i64 0, .int .i64 0, .int .i64 0] rfl).put 1 (of_decide_eq_true rfl) (.int .i64 0) [.int .i64 0, .int .i64 0, .int .i64 0, .int .i64 0] rfl) 1 (of_decide_eq_true rfl)
    have d2 := Arr.c (((B1_11.put 0 (of_decide_eq_true rfl) (.int .i64 0) [.int .i64 0, .int .i64 0, .int .i64 0, .int .i64 0] rfl).put 1 (of_decide_eq_true rfl) (.int .i64 0) [.int .i64 0, .int .i64 0, .int .i64 0, .int .i64 0] rfl).put 2 (of_decide_eq_true rfl) (.int .i64 0) [.int .i64 0, .int .i64 0, .int .i64 0, .int .i64 0] rfl) 2 (of_decide_eq_true rfl)
    have d3 := Arr.c ((((B1_11.put 0 (of_decide_eq_true rfl) (.int .i64 0) [.int .i64 0, .int .i64 0, .int .i64 0, .int .i64 0] rfl).put 1 (of_decide_eq_true rfl) (.int .i64 0) [.int .i64 0, .int .i64 0, .int .i64 0, .int .i64 0] rfl).put 2 (of_decide_eq_true rfl) (.int .i64 0) [.int .i64 0, .int .i64 0, .int .i64 0, .int .i64 0] rfl).put 3 (of_decide_eq_true rfl) (.int .i64 0) [.int .i64 0, .int .i64 0, .int .i64 0, .int .i64 0] rfl) 3 (of_decide_eq_true rfl)
    refine bodyPost_ret (v := .agg #[.int .i64 0, .int .i64 0, .int .i64 0, .int .i64 0]) (by simp [results, Try.results58, go_sem, d0, d1, d2, d3]) rfl ?_
    have hs : xUnitS bad q = ((0, 0, 0, 0), true) := by unfold xUnitS; simp only [E1.out, E2.out]; rw [if_pos (by have := Hhc1.out; omega)]
    rw [hs]
    exact ⟨rfl, ((((BF_11.new (w.heap.size + 1) 0 (by omega) (.int .i64 0)).new (w.heap.size + 1) 1 (by omega) (.int .i64 0)).new (w.heap.size + 1) 2 (by omega) (.int .i64 0)).new (w.heap.size + 1) 3 (by omega) (.int .i64 0)), ((((K11.new _ _ (by omega) _).new _ _ (by omega) _).new _ _ (by omega) _).new _ _ (by omega) _)⟩
  · have Hhc1 : Hid (¬ r2.1 < 549755813888) := hc1
    go_wp2_with fail
    refine wp_loop_rounds 5 ?_
    rw [rounds_succ]
    have c3_B0_0 : w2.cell? ⟨w.heap.size, 0, none⟩ = some (.int .i64 q.1) := B0_2.c 0 (of_decide_eq_true rfl)
    go_wp2_with fail
    refine (rDiv_any b r2.2 q.1 r2.1 _ f2).mono ?_
    rintro e w3 ⟨rfl, f3, k3⟩
    generalize e3 : divS r2.2 q.1 r2.1 = r3 at f3 ⊢
    have E3 : Hid _ := e3
    clear e3
    have K3 : Kept b w w3 := Kept.trans K2 k3
    have B0_3 : Arr w.heap.size [.int .i64 q.1, .int .i64 q.2.1, .int .i64 q.2.2.1, .int .i64 q.2.2.2] w3 := B0_2.kept k3 (by omega)
    have B1_3 : Arr (w.heap.size + 1) [.int .i64 0, .int .i64 0, .int .i64 0, .int .i64 0] w3 := B1_2.kept k3 (by omega)
    have z3 := B1_3.lies
    clear c3_B0_0 K2 f2 B0_2 B1_2 k3
    have c4_B0_0 : w3.cell? ⟨w.heap.size, 0, none⟩ = some (.int .i64 q.1) := B0_3.c 0 (of_decide_eq_true rfl)
    have g4_B0_0 := B0_3.f 0 (of_decide_eq_true rfl)
    go_wp2_with fail
    clear c4_B0_0 g4_B0_0
    refine rounds_letter (S := fun w' => Kept b w w' ∧ Fl b r3.2 w' ∧ Arr w.heap.size [.int .i64 r3.1, .int .i64 q.2.1, .int .i64 q.2.2.1, .int .i64 q.2.2.2] w' ∧ Arr (w.heap.size + 1) [.int .i64 0, .int .i64 0, .int .i64 0, .int .i64 0] w') ⟨(K3.new _ _ (by omega) _), (f3.new w.heap.size 0 (by omega) (.int .i64 r3.1)), (B0_3.put 0 (of_decide_eq_true rfl) (.int .i64 r3.1) [.int .i64 r3.1, .int .i64 q.2.1, .int .i64 q.2.2.1, .int .i64 q.2.2.2] rfl), (B1_3.new w.heap.size 0 (by omega) (.int .i64 r3.1))⟩ ?_
    rintro w4 ⟨K4, BF_4, B0_4, B1_4⟩
    have z4 := B1_4.lies
    clear K3 f3 B0_3 B1_3
    rw [rounds_succ]
    have c5_B0_1 : w4.cell? ⟨w.heap.size, 1, none⟩ = some (.int .i64 q.2.1) := B0_4.c 1 (of_decide_eq_true rfl)
    go_wp2_with fail
    refine (rDiv_any b r3.2 q.2.1 r2.1 _ BF_4).mono ?_
    rintro e w5 ⟨rfl, f5, k5⟩
    generalize e5 : divS r3.2 q.2.1 r2.1 = r5 at f5 ⊢
    have E5 : Hid _ := e5
    clear e5
    have K5 : Kept b w w5 := Kept.trans K4 k5
    have B0_5 : Arr w.heap.size [.int .i64 r3.1, .int .i64 q.2.1, .int .i64 q.2.2.1, .int .i64 q.2.2.2] w5 := B0_4.kept k5 (by omega)
    have B1_5 : Arr (w.heap.size + 1) [.int .i64 0, .int .i64 0, .int .i64 0, .int .i64 0] w5 := B1_4.kept k5 (by omega)
    have z5 := B1_5.lies
    clear c5_B0_1 K4 BF_4 B0_4 B1_4 k5
    have c6_B0_1 : w5.cell? ⟨w.heap.size, 1, none⟩ = some (.int .i64 q.2.1) := B0_5.c 1 (of_decide_eq_true rfl)
    have g6_B0_1 := B0_5.f 1 (of_decide_eq_true rfl)
    go_wp2_with fail
    clear c6_B0_1 g6_B0_1
    refine rounds_letter (S := fun w' => Kept b w w' ∧ Fl b r5.2 w' ∧ Arr w.heap.size [.int .i64 r3.1, .int .i64 r5.1, .int .i64 q.2.2.1, .int .i64 q.2.2.2] w' ∧ Arr (w.heap.size + 1) [.int .i64 0, .int .i64 0, .int .i64 0, .int .i64 0] w') ⟨(K5.new _ _ (by omega) _), (f5.new w.heap.size 1 (by omega) (.int .i64 r5.1)), (B0_5.put 1 (of_decide_eq_true rfl) (.int .i64 r5.1) [.int .i64 r3.1, .int .i64 r5.1, .int .i64 q.2.2.1, .int .i64 q.2.2.2] rfl), (B1_5.new w.heap.size 1 (by omega) (.int .i64 r5.1))⟩ ?_
    rintro w6 ⟨K6, BF_6, B0_6, B1_6⟩
    have z6 := B1_6.lies
    clear K5 f5 B0_5 B1_5
    rw [rounds_succ]
    have c7_B0_2 : w6.cell? ⟨w.heap.size, 2, none⟩ = some (.int .i64 q.2.2.1) := B0_6.c 2 (of_decide_eq_true rfl)
    go_wp2_with fail
    refine (rDiv_any b r5.2 q.2.2.1 r2.1 _ BF_6).mono ?_
    rintro e w7 ⟨rfl, f7, k7⟩
    generalize e7 : divS r5.2 q.2.2.1 r2.1 = r7 at f7 ⊢
    have E7 : Hid _ := e7
    clear e7
    have K7 : Kept b w w7 := Kept.trans K6 k7
    have B0_7 : Arr w.heap.size [.int .i64 r3.1, .int .i64 r5.1, .int .i64 q.2.2.1, .int .i64 q.2.2.2] w7 := B0_6.kept k7 (by omega)
    have B1_7 : Arr (w.heap.size + 1) [.int .i64 0, .int .i64 0, .int .i64 0, .int .i64 0] w7 := B1_6.kept k7 (by omega)
    have z7 := B1_7.lies
    clear c7_B0_2 K6 BF_6 B0_6 B1_6 k7
    have c8_B0_2 : w7.cell? ⟨w.heap.size, 2, none⟩ = some (.int .i64 q.2.2.1) := B0_7.c 2 (of_decide_eq_true rfl)
    have g8_B0_2 := B0_7.f 2 (of_decide_eq_true rfl)
    go_wp2_with fail
    clear c8_B0_2 g8_B0_2
    refine rounds_letter (S := fun w' => Kept b w w' ∧ Fl b r7.2 w' ∧ Arr w.heap.size [.int .i64 r3.1, .int .i64 r5.1, .int .i64 r7.1, .int .i64 q.2.2.2] w' ∧ Arr (w.heap.size + 1) [.int .i64 0, .int .i64 0, .int .i64 0, .int .i64 0] w') ⟨(K7.new _ _ (by omega) _), (f7.new w.heap.size 2 (by omega) (.int .i64 r7.1)), (B0_7.put 2 (of_decide_eq_true rfl) (.int .i64 r7.1) [.int .i64 r3.1, .int .i64 r5.1, .int .i64 r7.1, .int .i64 q.2.2.2] rfl), (B1_7.new w.heap.size 2 (by omega) (.int .i64 r7.1))⟩ ?_
    rintro w8 ⟨K8, BF_8, B0_8, B1_8⟩
    have z8 := B1_8.lies
    clear K7 f7 B0_7 B1_7
    rw [rounds_succ]
    have c9_B0_3 : w8.cell? ⟨w.heap.size, 3, none⟩ = some (.int .i64 q.2.2.2) := B0_8.c 3 (of_decide_eq_true rfl)
    go_wp2_with fail
    refine (rDiv_any b r7.2 q.2.2.2 r2.1 _ BF_8).mono ?_
    rintro e w9 ⟨rfl, f9, k9⟩
    generalize e9 : divS r7.2 q.2.2.2 r2.1 = r9 at f9 ⊢
    have E9 : Hid _ := e9
    clear e9
    have K9 : Kept b w w9 := Kept.trans K8 k9
    have B0_9 : Arr w.heap.size [.int .i64 r3.1, .int .i64 r5.1, .int .i64 r7.1, .int .i64 q.2.2.2] w9 := B0_8.kept k9 (by omega)
    have B1_9 : Arr (w.heap.size + 1) [.int .i64 0, .int .i64 0, .int .i64 0, .int .i64 0] w9 := B1_8.kept k9 (by omega)
    have z9 := B1_9.lies
    clear c9_B0_3 K8 BF_8 B0_8 B1_8 k9
    have c10_B0_3 : w9.cell? ⟨w.heap.size, 3, none⟩ = some (.int .i64 q.2.2.2) := B0_9.c 3 (of_decide_eq_true rfl)
    have g10_B0_3 := B0_9.f 3 (of_decide_eq_true rfl)
    go_wp2_with fail
    clear c10_B0_3 g10_B0_3
    refine rounds_letter (S := fun w' => Kept b w w' ∧ Fl b r9.2 w' ∧ Arr w.heap.size [.int .i64 r3.1, .int .i64 r5.1, .int .i64 r7.1, .int .i64 r9.1] w' ∧ Arr (w.heap.size + 1) [.int .i64 0, .int .i64 0, .int .i64 0, .int .i64 0] w') ⟨(K9.new _ _ (by omega) _), (f9.new w.heap.size 3 (by omega) (.int .i64 r9.1)), (B0_9.put 3 (of_decide_eq_true rfl) (.int .i64 r9.1) [.int .i64 r3.1, .int .i64 r5.1, .int .i64 r7.1, .int .i64 r9.1] rfl), (B1_9.new w.heap.size 3 (by omega) (.int .i64 r9.1))⟩ ?_
    rintro w10 ⟨K10, BF_10, B0_10, B1_10⟩
    have z10 := B1_10.lies
    clear K9 f9 B0_9 B1_9
    rw [rounds_succ]
    rcases Bool.eq_false_or_eq_true r9.2 with hc2 | hc2
    · have Hhc2 : Hid (r9.2 = true) := hc2
      have c11_B1_0 : w10.cell? ⟨w.heap.size + 1, 0, none⟩ = some (.int .i64 0) := B1_10.c 0 (of_decide_eq_true rfl)
      have c11_B1_1 : w10.cell? ⟨w.heap.size + 1, 1, none⟩ = some (.int .i64 0) := B1_10.c 1 (of_decide_eq_true rfl)
      have c11_B1_2 : w10.cell? ⟨w.heap.size + 1, 2, none⟩ = some (.int .i64 0) := B1_10.c 2 (of_decide_eq_true rfl)
      have c11_B1_3 : w10.cell? ⟨w.heap.size + 1, 3, none⟩ = some (.int .i64 0) := B1_10.c 3 (of_decide_eq_true rfl)
      have c11_BF := BF_10.cell
      have g11_B1_0 := B1_10.f 0 (of_decide_eq_true rfl)
      have g11_B1_1 := B1_10.f 1 (of_decide_eq_true rfl)
      have g11_B1_2 := B1_10.f 2 (of_decide_eq_true rfl)
      have g11_B1_3 := B1_10.f 3 (of_decide_eq_true rfl)
      go_wp2
      clear c11_B1_0 c11_B1_1 c11_B1_2 c11_B1_3 c11_BF g11_B1_0 g11_B1_1 g11_B1_2 g11_B1_3
      have d0 := Arr.c (B1_10.put 0 (of_decide_eq_true rfl) (.int .i64 0) [.int .i64 0, .int .i64 0, .int .i64 0, .int .i64 0] rfl) 0 (of_decide_eq_true rfl)
      have d1 := Arr.c ((B1_10.put 0 (of_decide_eq_true rfl) (.int .i64 0) [.int .i64 0, .int .i64 0, .int .i64 0, .int .i64 0] rfl).put 1 (of_decide_eq_true rfl) (.int .i64 0) [.int .i64 0, .int .i64 0, .int .i64 0, .int .i64 0] rfl) 1 (of_decide_eq_true rfl)
      have d2 := Arr.c (((B1_10.put 0 (of_decide_eq_true rfl) (.int .i64 0) [.int .i64 0, .int .i64 0, .int .i64 0, .int .i64 0] rfl).put 1 (of_decide_eq_true rfl) (.int .i64 0) [.int .i64 0, .int .i64 0, .int .i64 0, .int .i64 0] rfl).put 2 (of_decide_eq_true rfl) (.int .i64 0) [.int .i64 0, .int .i64 0, .int .i64 0, .int .i64 0] rfl) 2 (of_decide_eq_true rfl)
      have d3 := Arr.c ((((B1_10.put 0 (of_decide_eq_true rfl) (.int .i64 0) [.int .i64 0, .int .i64 0, .int .i64 0, .int .i64 0] rfl).put 1 (of_decide_eq_true rfl) (.int .i64 0) [.int .i64 0, .int .i64 0, .int .i64 0, .int .i64 0] rfl).put 2 (of_decide_eq_true rfl) (.int .i64 0) [.int .i64 0, .int .i64 0, .int .i64 0, .int .i64 0] rfl).put 3 (of_decide_eq_true rfl) (.int .i64 0) [.int .i64 0, .int .i64 0, .int .i64 0, .int .i64 0] rfl) 3 (of_decide_eq_true rfl)
      refine bodyPost_ret (v := .agg #[.int .i64 0, .int .i64 0, .int .i64 0, .int .i64 0]) (by simp [results, Try.results58, go_sem, d0, d1, d2, d3]) rfl ?_
      have hs : xUnitS bad q = ((0, 0, 0, 0), r9.2) := by unfold xUnitS; simp only [E1.out, E2.out, E3.out, E5.out, E7.out, E9.out]; rw [if_neg (by have := Hhc1.out; omega)]; rw [if_pos Hhc2.out]
      rw [hs]
      exact ⟨rfl, ((((BF_10.new (w.heap.size + 1) 0 (by omega) (.int .i64 0)).new (w.heap.size + 1) 1 (by omega) (.int .i64 0)).new (w.heap.size + 1) 2 (by omega) (.int .i64 0)).new (w.heap.size + 1) 3 (by omega) (.int .i64 0)), ((((K10.new _ _ (by omega) _).new _ _ (by omega) _).new _ _ (by omega) _).new _ _ (by omega) _)⟩
    · have Hhc2 : Hid (r9.2 = false) := hc2
      by_cases hc3 : r9.1 < 0
      · have Hhc3 : Hid (r9.1 < 0) := hc3
        have c11_B0_3 : w10.cell? ⟨w.heap.size, 3, none⟩ = some (.int .i64 r9.1) := B0_10.c 3 (of_decide_eq_true rfl)
        have c11_BF := BF_10.cell
        go_wp2_with fail
        clear c11_B0_3 c11_BF
        refine wp_loop_rounds 5 ?_
        rw [rounds_succ]
        have c12_B0_0 : w10.cell? ⟨w.heap.size, 0, none⟩ = some (.int .i64 r3.1) := B0_10.c 0 (of_decide_eq_true rfl)
        have g12_B0_0 := B0_10.f 0 (of_decide_eq_true rfl)
        have q12_2 : -4611686018427387904 ≤ r3.1 ∧ r3.1 ≤ 4611686018427387904 := (by rw [← E3.out]; exact divS_rng _ _ _)
        obtain ⟨q12_2a, q12_2b⟩ := q12_2
        go_wp2_with fail
        clear c12_B0_0 g12_B0_0 q12_2a q12_2b
        refine rounds_letter (S := fun w' => Kept b w w' ∧ Fl b r9.2 w' ∧ Arr w.heap.size [.int .i64 (-r3.1), .int .i64 r5.1, .int .i64 r7.1, .int .i64 r9.1] w' ∧ Arr (w.heap.size + 1) [.int .i64 0, .int .i64 0, .int .i64 0, .int .i64 0] w') ⟨(K10.new _ _ (by omega) _), (BF_10.new w.heap.size 0 (by omega) (.int .i64 (-r3.1))), (B0_10.put 0 (of_decide_eq_true rfl) (.int .i64 (-r3.1)) [.int .i64 (-r3.1), .int .i64 r5.1, .int .i64 r7.1, .int .i64 r9.1] rfl), (B1_10.new w.heap.size 0 (by omega) (.int .i64 (-r3.1)))⟩ ?_
        rintro w11 ⟨K11, BF_11, B0_11, B1_11⟩
        have z11 := B1_11.lies
        clear K10 BF_10 B0_10 B1_10
        rw [rounds_succ]
        have c13_B0_1 : w11.cell? ⟨w.heap.size, 1, none⟩ = some (.int .i64 r5.1) := B0_11.c 1 (of_decide_eq_true rfl)
        have g13_B0_1 := B0_11.f 1 (of_decide_eq_true rfl)
        have q13_2 : -4611686018427387904 ≤ r5.1 ∧ r5.1 ≤ 4611686018427387904 := (by rw [← E5.out]; exact divS_rng _ _ _)
        obtain ⟨q13_2a, q13_2b⟩ := q13_2
        go_wp2_with fail
        clear c13_B0_1 g13_B0_1 q13_2a q13_2b
        refine rounds_letter (S := fun w' => Kept b w w' ∧ Fl b r9.2 w' ∧ Arr w.heap.size [.int .i64 (-r3.1), .int .i64 (-r5.1), .int .i64 r7.1, .int .i64 r9.1] w' ∧ Arr (w.heap.size + 1) [.int .i64 0, .int .i64 0, .int .i64 0, .int .i64 0] w') ⟨(K11.new _ _ (by omega) _), (BF_11.new w.heap.size 1 (by omega) (.int .i64 (-r5.1))), (B0_11.put 1 (of_decide_eq_true rfl) (.int .i64 (-r5.1)) [.int .i64 (-r3.1), .int .i64 (-r5.1), .int .i64 r7.1, .int .i64 r9.1] rfl), (B1_11.new w.heap.size 1 (by omega) (.int .i64 (-r5.1)))⟩ ?_
        rintro w12 ⟨K12, BF_12, B0_12, B1_12⟩
        have z12 := B1_12.lies
        clear K11 BF_11 B0_11 B1_11
        rw [rounds_succ]
        have c14_B0_2 : w12.cell? ⟨w.heap.size, 2, none⟩ = some (.int .i64 r7.1) := B0_12.c 2 (of_decide_eq_true rfl)
        have g14_B0_2 := B0_12.f 2 (of_decide_eq_true rfl)
        have q14_2 : -4611686018427387904 ≤ r7.1 ∧ r7.1 ≤ 4611686018427387904 := (by rw [← E7.out]; exact divS_rng _ _ _)
        obtain ⟨q14_2a, q14_2b⟩ := q14_2
        go_wp2_with fail
        clear c14_B0_2 g14_B0_2 q14_2a q14_2b
        refine rounds_letter (S := fun w' => Kept b w w' ∧ Fl b r9.2 w' ∧ Arr w.heap.size [.int .i64 (-r3.1), .int .i64 (-r5.1), .int .i64 (-r7.1), .int .i64 r9.1] w' ∧ Arr (w.heap.size + 1) [.int .i64 0, .int .i64 0, .int .i64 0, .int .i64 0] w') ⟨(K12.new _ _ (by omega) _), (BF_12.new w.heap.size 2 (by omega) (.int .i64 (-r7.1))), (B0_12.put 2 (of_decide_eq_true rfl) (.int .i64 (-r7.1)) [.int .i64 (-r3.1), .int .i64 (-r5.1), .int .i64 (-r7.1), .int .i64 r9.1] rfl), (B1_12.new w.heap.size 2 (by omega) (.int .i64 (-r7.1)))⟩ ?_
        rintro w13 ⟨K13, BF_13, B0_13, B1_13⟩
        have z13 := B1_13.lies
        clear K12 BF_12 B0_12 B1_12
        rw [rounds_succ]
        have c15_B0_3 : w13.cell? ⟨w.heap.size, 3, none⟩ = some (.int .i64 r9.1) := B0_13.c 3 (of_decide_eq_true rfl)
        have g15_B0_3 := B0_13.f 3 (of_decide_eq_true rfl)
        have q15_2 : -4611686018427387904 ≤ r9.1 ∧ r9.1 ≤ 4611686018427387904 := (by rw [← E9.out]; exact divS_rng _ _ _)
        obtain ⟨q15_2a, q15_2b⟩ := q15_2
        go_wp2_with fail
        clear c15_B0_3 g15_B0_3 q15_2a q15_2b
        refine rounds_letter (S := fun w' => Kept b w w' ∧ Fl b r9.2 w' ∧ Arr w.heap.size [.int .i64 (-r3.1), .int .i64 (-r5.1), .int .i64 (-r7.1), .int .i64 (-r9.1)] w' ∧ Arr (w.heap.size + 1) [.int .i64 0, .int .i64 0, .int .i64 0, .int .i64 0] w') ⟨(K13.new _ _ (by omega) _), (BF_13.new w.heap.size 3 (by omega) (.int .i64 (-r9.1))), (B0_13.put 3 (of_decide_eq_true rfl) (.int .i64 (-r9.1)) [.int .i64 (-r3.1), .int .i64 (-r5.1), .int .i64 (-r7.1), .int .i64 (-r9.1)] rfl), (B1_13.new w.heap.size 3 (by omega) (.int .i64 (-r9.1)))⟩ ?_
        rintro w14 ⟨K14, BF_14, B0_14, B1_14⟩
        have z14 := B1_14.lies
        clear K13 BF_13 B0_13 B1_13
        rw [rounds_succ]
        have c16_B0_0 : w14.cell? ⟨w.heap.size, 0, none⟩ = some (.int .i64 (-r3.1)) := B0_14.c 0 (of_decide_eq_true rfl)
        have c16_B0_1 : w14.cell? ⟨w.heap.size, 1, none⟩ = some (.int .i64 (-r5.1)) := B0_14.c 1 (of_decide_eq_true rfl)
        have c16_B0_2 : w14.cell? ⟨w.heap.size, 2, none⟩ = some (.int .i64 (-r7.1)) := B0_14.c 2 (of_decide_eq_true rfl)
        have c16_B0_3 : w14.cell? ⟨w.heap.size, 3, none⟩ = some (.int .i64 (-r9.1)) := B0_14.c 3 (of_decide_eq_true rfl)
        have c16_B1_0 : w14.cell? ⟨w.heap.size + 1, 0, none⟩ = some (.int .i64 0) := B1_14.c 0 (of_decide_eq_true rfl)
        have c16_B1_1 : w14.cell? ⟨w.heap.size + 1, 1, none⟩ = some (.int .i64 0) := B1_14.c 1 (of_decide_eq_true rfl)
        have c16_B1_2 : w14.cell? ⟨w.heap.size + 1, 2, none⟩ = some (.int .i64 0) := B1_14.c 2 (of_decide_eq_true rfl)
        have c16_B1_3 : w14.cell? ⟨w.heap.size + 1, 3, none⟩ = some (.int .i64 0) := B1_14.c 3 (of_decide_eq_true rfl)
        have g16_B1_0 := B1_14.f 0 (of_decide_eq_true rfl)
        have g16_B1_1 := B1_14.f 1 (of_decide_eq_true rfl)
        have g16_B1_2 := B1_14.f 2 (of_decide_eq_true rfl)
        have g16_B1_3 := B1_14.f 3 (of_decide_eq_true rfl)
        go_wp2
        clear c16_B0_0 c16_B0_1 c16_B0_2 c16_B0_3 c16_B1_0 c16_B1_1 c16_B1_2 c16_B1_3 g16_B1_0 g16_B1_1 g16_B1_2 g16_B1_3
        have d0 := Arr.c (B1_14.put 0 (of_decide_eq_true rfl) (.int .i64 (-r3.1)) [.int .i64 (-r3.1), .int .i64 0, .int .i64 0, .int .i64 0] rfl) 0 (of_decide_eq_true rfl)
        have d1 := Arr.c ((B1_14.put 0 (of_decide_eq_true rfl) (.int .i64 (-r3.1)) [.int .i64 (-r3.1), .int .i64 0, .int .i64 0, .int .i64 0] rfl).put 1 (of_decide_eq_true rfl) (.int .i64 (-r5.1)) [.int .i64 (-r3.1), .int .i64 (-r5.1), .int .i64 0, .int .i64 0] rfl) 1 (of_decide_eq_true rfl)
        have d2 := Arr.c (((B1_14.put 0 (of_decide_eq_true rfl) (.int .i64 (-r3.1)) [.int .i64 (-r3.1), .int .i64 0, .int .i64 0, .int .i64 0] rfl).put 1 (of_decide_eq_true rfl) (.int .i64 (-r5.1)) [.int .i64 (-r3.1), .int .i64 (-r5.1), .int .i64 0, .int .i64 0] rfl).put 2 (of_decide_eq_true rfl) (.int .i64 (-r7.1)) [.int .i64 (-r3.1), .int .i64 (-r5.1), .int .i64 (-r7.1), .int .i64 0] rfl) 2 (of_decide_eq_true rfl)
        have d3 := Arr.c ((((B1_14.put 0 (of_decide_eq_true rfl) (.int .i64 (-r3.1)) [.int .i64 (-r3.1), .int .i64 0, .int .i64 0, .int .i64 0] rfl).put 1 (of_decide_eq_true rfl) (.int .i64 (-r5.1)) [.int .i64 (-r3.1), .int .i64 (-r5.1), .int .i64 0, .int .i64 0] rfl).put 2 (of_decide_eq_true rfl) (.int .i64 (-r7.1)) [.int .i64 (-r3.1), .int .i64 (-r5.1), .int .i64 (-r7.1), .int .i64 0] rfl).put 3 (of_decide_eq_true rfl) (.int .i64 (-r9.1)) [.int .i64 (-r3.1), .int .i64 (-r5.1), .int .i64 (-r7.1), .int .i64 (-r9.1)] rfl) 3 (of_decide_eq_true rfl)
        refine bodyPost_ret (v := .agg #[.int .i64 (-r3.1), .int .i64 (-r5.1), .int .i64 (-r7.1), .int .i64 (-r9.1)]) (by simp [results, Try.results58, go_sem, d0, d1, d2, d3]) rfl ?_
        have hs : xUnitS bad q = (((-r3.1), (-r5.1), (-r7.1), (-r9.1)), r9.2) := by unfold xUnitS; simp only [E1.out, E2.out, E3.out, E5.out, E7.out, E9.out]; rw [if_neg (by have := Hhc1.out; omega)]; rw [if_neg (by rw [Hhc2.out]; decide)]; rw [if_pos (by have := Hhc3.out; omega)]
        rw [hs]
        exact ⟨rfl, ((((BF_14.new (w.heap.size + 1) 0 (by omega) (.int .i64 (-r3.1))).new (w.heap.size + 1) 1 (by omega) (.int .i64 (-r5.1))).new (w.heap.size + 1) 2 (by omega) (.int .i64 (-r7.1))).new (w.heap.size + 1) 3 (by omega) (.int .i64 (-r9.1))), ((((K14.new _ _ (by omega) _).new _ _ (by omega) _).new _ _ (by omega) _).new _ _ (by omega) _)⟩
      · have Hhc3 : Hid (¬ r9.1 < 0) := hc3
        have c11_B0_0 : w10.cell? ⟨w.heap.size, 0, none⟩ = some (.int .i64 r3.1) := B0_10.c 0 (of_decide_eq_true rfl)
        have c11_B0_1 : w10.cell? ⟨w.heap.size, 1, none⟩ = some (.int .i64 r5.1) := B0_10.c 1 (of_decide_eq_true rfl)
        have c11_B0_2 : w10.cell? ⟨w.heap.size, 2, none⟩ = some (.int .i64 r7.1) := B0_10.c 2 (of_decide_eq_true rfl)
        have c11_B0_3 : w10.cell? ⟨w.heap.size, 3, none⟩ = some (.int .i64 r9.1) := B0_10.c 3 (of_decide_eq_true rfl)
        have c11_B1_0 : w10.cell? ⟨w.heap.size + 1, 0, none⟩ = some (.int .i64 0) := B1_10.c 0 (of_decide_eq_true rfl)
        have c11_B1_1 : w10.cell? ⟨w.heap.size + 1, 1, none⟩ = some (.int .i64 0) := B1_10.c 1 (of_decide_eq_true rfl)
        have c11_B1_2 : w10.cell? ⟨w.heap.size + 1, 2, none⟩ = some (.int .i64 0) := B1_10.c 2 (of_decide_eq_true rfl)
        have c11_B1_3 : w10.cell? ⟨w.heap.size + 1, 3, none⟩ = some (.int .i64 0) := B1_10.c 3 (of_decide_eq_true rfl)
        have c11_BF := BF_10.cell
        have g11_B1_0 := B1_10.f 0 (of_decide_eq_true rfl)
        have g11_B1_1 := B1_10.f 1 (of_decide_eq_true rfl)
        have g11_B1_2 := B1_10.f 2 (of_decide_eq_true rfl)
        have g11_B1_3 := B1_10.f 3 (of_decide_eq_true rfl)
        go_wp2
        clear c11_B0_0 c11_B0_1 c11_B0_2 c11_B0_3 c11_B1_0 c11_B1_1 c11_B1_2 c11_B1_3 c11_BF g11_B1_0 g11_B1_1 g11_B1_2 g11_B1_3
        have d0 := Arr.c (B1_10.put 0 (of_decide_eq_true rfl) (.int .i64 r3.1) [.int .i64 r3.1, .int .i64 0, .int .i64 0, .int .i64 0] rfl) 0 (of_decide_eq_true rfl)
        have d1 := Arr.c ((B1_10.put 0 (of_decide_eq_true rfl) (.int .i64 r3.1) [.int .i64 r3.1, .int .i64 0, .int .i64 0, .int .i64 0] rfl).put 1 (of_decide_eq_true rfl) (.int .i64 r5.1) [.int .i64 r3.1, .int .i64 r5.1, .int .i64 0, .int .i64 0] rfl) 1 (of_decide_eq_true rfl)
        have d2 := Arr.c (((B1_10.put 0 (of_decide_eq_true rfl) (.int .i64 r3.1) [.int .i64 r3.1, .int .i64 0, .int .i64 0, .int .i64 0] rfl).put 1 (of_decide_eq_true rfl) (.int .i64 r5.1) [.int .i64 r3.1, .int .i64 r5.1, .int .i64 0, .int .i64 0] rfl).put 2 (of_decide_eq_true rfl) (.int .i64 r7.1) [.int .i64 r3.1, .int .i64 r5.1, .int .i64 r7.1, .int .i64 0] rfl) 2 (of_decide_eq_true rfl)
        have d3 := Arr.c ((((B1_10.put 0 (of_decide_eq_true rfl) (.int .i64 r3.1) [.int .i64 r3.1, .int .i64 0, .int .i64 0, .int .i64 0] rfl).put 1 (of_decide_eq_true rfl) (.int .i64 r5.1) [.int .i64 r3.1, .int .i64 r5.1, .int .i64 0, .int .i64 0] rfl).put 2 (of_decide_eq_true rfl) (.int .i64 r7.1) [.int .i64 r3.1, .int .i64 r5.1, .int .i64 r7.1, .int .i64 0] rfl).put 3 (of_decide_eq_true rfl) (.int .i64 r9.1) [.int .i64 r3.1, .int .i64 r5.1, .int .i64 r7.1, .int .i64 r9.1] rfl) 3 (of_decide_eq_true rfl)
        refine bodyPost_ret (v := .agg #[.int .i64 r3.1, .int .i64 r5.1, .int .i64 r7.1, .int .i64 r9.1]) (by simp [results, Try.results58, go_sem, d0, d1, d2, d3]) rfl ?_
        have hs : xUnitS bad q = ((r3.1, r5.1, r7.1, r9.1), r9.2) := by unfold xUnitS; simp only [E1.out, E2.out, E3.out, E5.out, E7.out, E9.out]; rw [if_neg (by have := Hhc1.out; omega)]; rw [if_neg (by rw [Hhc2.out]; decide)]; rw [if_neg (by have := Hhc3.out; omega)]
        rw [hs]
        exact ⟨rfl, ((((BF_10.new (w.heap.size + 1) 0 (by omega) (.int .i64 r3.1)).new (w.heap.size + 1) 1 (by omega) (.int .i64 r5.1)).new (w.heap.size + 1) 2 (by omega) (.int .i64 r7.1)).new (w.heap.size + 1) 3 (by omega) (.int .i64 r9.1)), ((((K10.new _ _ (by omega) _).new _ _ (by omega) _).new _ _ (by omega) _).new _ _ (by omega) _)⟩
end Go.Proofs.Ytkeijfbpkdelpaa
