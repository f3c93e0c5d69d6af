/-
  Walks of package quat, for the seat Ytkeijfbpkdelpaa. (Made by mkquat.py.)
-/
import Derived.Test.YtkeijfbpkdelpaaQBase
import Derived.Test.YtkeijfbpkdelpaaVCode
import Derived.Handy
import Derived.Deep.RegionHeld3
namespace Go.Proofs.Ytkeijfbpkdelpaa
open Go.RowKit

set_option maxRecDepth 100000 in
set_option maxHeartbeats 2000000 in
theorem qTurn_any (b : Nat) (bad : Bool) (q : V4) (v : V3) (w : World) (hw : Fl b bad w) :
    Calls Try.prog 14 #[.pointer (some ⟨b, 0, none⟩), .agg #[.int .i64 q.1, .int .i64 q.2.1, .int .i64 q.2.2.1, .int .i64 q.2.2.2], .agg #[.int .i64 v.1, .int .i64 v.2.1, .int .i64 v.2.2]] w fun e w' => e = .returned (.agg #[.int .i64 ((qTurnS bad q v).1.1), .int .i64 ((qTurnS bad q v).1.2.1), .int .i64 ((qTurnS bad q v).1.2.2)]) ∧ Fl b (qTurnS bad q v).2 w' ∧ Kept b w w' := by
  have hl := hw.lies
  go_enter Try.func14, Try.ntmps14
  go_wp2_with fail
  refine (parted_any q _).mono ?_
  rintro e w1 ⟨rfl, k1⟩
  have K1 : Kept b w w1 := Kept.trans ((((Kept.refl b w).al _).al _).al _) (Kept.of_below k1)
  have BF_1 : Fl b bad w1 := (((hw.alloc _).alloc _).alloc _).below k1
  have B0_1 : Arr w.heap.size [.int .i64 q.1, .int .i64 q.2.1, .int .i64 q.2.2.1, .int .i64 q.2.2.2] w1 := (((Arr_at _ _ [.int .i64 q.1, .int .i64 q.2.1, .int .i64 q.2.2.1, .int .i64 q.2.2.2] _ (by simp)).alloc _).alloc _).below k1
  have B1_1 : Arr (w.heap.size + 1) [.int .i64 v.1, .int .i64 v.2.1, .int .i64 v.2.2] w1 := ((Arr_at _ _ [.int .i64 v.1, .int .i64 v.2.1, .int .i64 v.2.2] _ (by simp)).alloc _).below k1
  have B2_1 : Arr (w.heap.size + 1 + 1) [.int .i64 0, .int .i64 0, .int .i64 0] w1 := (Arr_at _ _ [.int .i64 0, .int .i64 0, .int .i64 0] _ (by simp)).below k1
  have z1 := B2_1.lies
  clear k1
  have c2_B1_0 : w1.cell? ⟨w.heap.size + 1, 0, none⟩ = some (.int .i64 v.1) := B1_1.c 0 (of_decide_eq_true rfl)
  have c2_B1_1 : w1.cell? ⟨w.heap.size + 1, 1, none⟩ = some (.int .i64 v.2.1) := B1_1.c 1 (of_decide_eq_true rfl)
  have c2_B1_2 : w1.cell? ⟨w.heap.size + 1, 2, none⟩ = some (.int .i64 v.2.2) := B1_1.c 2 (of_decide_eq_true rfl)
  have l2_B1 := B1_1.lies
  go_wp2_with fail
  refine (vCross_any b bad (q.1, q.2.1, q.2.2.1) v _ (BF_1.alloc _)).mono ?_
  rintro e w2 ⟨rfl, f2, k2⟩
  generalize e2 : vCrossS bad (q.1, q.2.1, q.2.2.1) v = r2 at f2 ⊢
  have E2 : Hid _ := e2
  clear e2
  have K2 : Kept b w w2 := Kept.trans (K1.al _) k2
  have B0_2 : Arr w.heap.size [.int .i64 q.1, .int .i64 q.2.1, .int .i64 q.2.2.1, .int .i64 q.2.2.2] w2 := (B0_1.alloc _).kept k2 (by omega)
  have B1_2 : Arr (w.heap.size + 1) [.int .i64 v.1, .int .i64 v.2.1, .int .i64 v.2.2] w2 := (B1_1.alloc _).kept k2 (by omega)
  have B2_2 : Arr (w.heap.size + 1 + 1) [.int .i64 0, .int .i64 0, .int .i64 0] w2 := (B2_1.alloc _).kept k2 (by omega)
  have B3_2 : Arr w1.heap.size [.int .i64 q.1, .int .i64 q.2.1, .int .i64 q.2.2.1] w2 := (Arr_at _ _ [.int .i64 q.1, .int .i64 q.2.1, .int .i64 q.2.2.1] _ (by simp)).kept k2 (by omega)
  have z2 := B3_2.lies
  clear c2_B1_0 c2_B1_1 c2_B1_2 l2_B1 K1 BF_1 B0_1 B1_1 B2_1 k2
  go_wp2_with fail
  refine (vScale_any b r2.2 r2.1 2199023255552 _ f2).mono ?_
  rintro e w3 ⟨rfl, f3, k3⟩
  generalize e3 : vScaleS r2.2 r2.1 2199023255552 = r3 at f3 ⊢
  have E3 : Hid _ := e3
  clear e3
  have K3 : Kept b w w3 := Kept.trans K2 k3
  have B0_3 : Arr w.heap.size [.int .i64 q.1, .int .i64 q.2.1, .int .i64 q.2.2.1, .int .i64 q.2.2.2] w3 := B0_2.kept k3 (by omega)
  have B1_3 : Arr (w.heap.size + 1) [.int .i64 v.1, .int .i64 v.2.1, .int .i64 v.2.2] w3 := B1_2.kept k3 (by omega)
  have B2_3 : Arr (w.heap.size + 1 + 1) [.int .i64 0, .int .i64 0, .int .i64 0] w3 := B2_2.kept k3 (by omega)
  have B3_3 : Arr w1.heap.size [.int .i64 q.1, .int .i64 q.2.1, .int .i64 q.2.2.1] w3 := B3_2.kept k3 (by omega)
  have z3 := B3_3.lies
  clear K2 f2 B0_2 B1_2 B2_2 B3_2 k3
  go_wp2_with fail
  refine wp_region_held_drew (S := fun w' => Arr (w.heap.size + 1) [.int .i64 v.1, .int .i64 v.2.1, .int .i64 v.2.2] w' ∧ Arr w3.heap.size [.int .i64 r3.1.1, .int .i64 r3.1.2.1, .int .i64 r3.1.2.2] w' ∧ Arr w1.heap.size [.int .i64 q.1, .int .i64 q.2.1, .int .i64 q.2.2.1] w') (by kernel_rfl) ⟨(B1_3.alloc _).drew, (Arr_at _ _ [.int .i64 r3.1.1, .int .i64 r3.1.2.1, .int .i64 r3.1.2.2] _ (by simp)).drew, (B3_3.alloc _).drew⟩ (fun hHeld => ?_)
  refine take_at (i := 0) (v := ?v65) rfl (by kernel_rfl) (by kernel_rfl) (by kernel_rfl) (fun _ _ _ h => h) (Or.inl ⟨by rfl, ?y65⟩) hHeld ?t65
  case y65 => (intro wx hSw; go_simp <;> with_reducible rfl)
  simp only [Act.put, List.setIfInBounds_toArray, List.set_cons_zero, List.set_cons_succ]
  refine take_at (i := 1) (v := ?v66) rfl (by kernel_rfl) (by kernel_rfl) (by kernel_rfl) (fun _ _ _ h => h) (Or.inl ⟨by rfl, ?y66⟩) hHeld ?t66
  case y66 => (intro wx hSw; go_simp <;> with_reducible rfl)
  simp only [Act.put, List.setIfInBounds_toArray, List.set_cons_zero, List.set_cons_succ]
  refine take_at (i := 2) (v := ?v67) rfl (by kernel_rfl) (by kernel_rfl) (by kernel_rfl) (fun _ _ _ h => h) (Or.inl ⟨by rfl, ?y67⟩) hHeld ?t67
  case y67 => (intro wx hSw; have hc0 : wx.cell? ⟨w.heap.size + 1, 0, none⟩ = some (.int .i64 v.1) := hSw.1.c 0 (of_decide_eq_true rfl); have hc1 : wx.cell? ⟨w.heap.size + 1, 1, none⟩ = some (.int .i64 v.2.1) := hSw.1.c 1 (of_decide_eq_true rfl); have hc2 : wx.cell? ⟨w.heap.size + 1, 2, none⟩ = some (.int .i64 v.2.2) := hSw.1.c 2 (of_decide_eq_true rfl); go_simp <;> with_reducible rfl)
  simp only [Act.put, List.setIfInBounds_toArray, List.set_cons_zero, List.set_cons_succ]
  refine take_at (i := 3) (v := ?v68) rfl (by kernel_rfl) (by kernel_rfl) (by kernel_rfl) (fun _ _ _ h => h) (Or.inl ⟨by rfl, ?y68⟩) hHeld ?t68
  case y68 => (intro wx hSw; go_simp <;> with_reducible rfl)
  simp only [Act.put, List.setIfInBounds_toArray, List.set_cons_zero, List.set_cons_succ]
  refine take_at (i := 4) (v := ?v69) rfl (by kernel_rfl) (by kernel_rfl) (by kernel_rfl) (fun _ _ _ h => h) (Or.inl ⟨by rfl, ?y69⟩) hHeld ?t69
  case y69 => (intro wx hSw; have hc0 : wx.cell? ⟨w3.heap.size, 0, none⟩ = some (.int .i64 r3.1.1) := hSw.2.1.c 0 (of_decide_eq_true rfl); have hc1 : wx.cell? ⟨w3.heap.size, 1, none⟩ = some (.int .i64 r3.1.2.1) := hSw.2.1.c 1 (of_decide_eq_true rfl); have hc2 : wx.cell? ⟨w3.heap.size, 2, none⟩ = some (.int .i64 r3.1.2.2) := hSw.2.1.c 2 (of_decide_eq_true rfl); go_simp <;> with_reducible rfl)
  simp only [Act.put, List.setIfInBounds_toArray, List.set_cons_zero, List.set_cons_succ]
  refine take_at (i := 5) (v := ?v70) rfl (by kernel_rfl) (by kernel_rfl) (by kernel_rfl) (fun _ _ _ h => h) (Or.inl ⟨by rfl, ?y70⟩) hHeld ?t70
  case y70 => (intro wx hSw; go_simp <;> with_reducible rfl)
  simp only [Act.put, List.setIfInBounds_toArray, List.set_cons_zero, List.set_cons_succ]
  refine take_at (i := 8) (v := ?v71) rfl (by kernel_rfl) (by kernel_rfl) (by kernel_rfl) (fun _ _ _ h => h) (Or.inl ⟨by rfl, ?y71⟩) hHeld ?t71
  case y71 => (intro wx hSw; go_simp <;> with_reducible rfl)
  simp only [Act.put, List.setIfInBounds_toArray, List.set_cons_zero, List.set_cons_succ]
  refine take_at (i := 9) (v := ?v72) rfl (by kernel_rfl) (by kernel_rfl) (by kernel_rfl) (fun _ _ _ h => h) (Or.inl ⟨by rfl, ?y72⟩) hHeld ?t72
  case y72 => (intro wx hSw; have hc0 : wx.cell? ⟨w1.heap.size, 0, none⟩ = some (.int .i64 q.1) := hSw.2.2.c 0 (of_decide_eq_true rfl); have hc1 : wx.cell? ⟨w1.heap.size, 1, none⟩ = some (.int .i64 q.2.1) := hSw.2.2.c 1 (of_decide_eq_true rfl); have hc2 : wx.cell? ⟨w1.heap.size, 2, none⟩ = some (.int .i64 q.2.2.1) := hSw.2.2.c 2 (of_decide_eq_true rfl); go_simp <;> with_reducible rfl)
  simp only [Act.put, List.setIfInBounds_toArray, List.set_cons_zero, List.set_cons_succ]
  refine take_at (i := 10) (v := ?v73) rfl (by kernel_rfl) (by kernel_rfl) (by kernel_rfl) (fun _ _ _ h => h) (Or.inl ⟨by rfl, ?y73⟩) hHeld ?t73
  case y73 => (intro wx hSw; have hc0 : wx.cell? ⟨w3.heap.size, 0, none⟩ = some (.int .i64 r3.1.1) := hSw.2.1.c 0 (of_decide_eq_true rfl); have hc1 : wx.cell? ⟨w3.heap.size, 1, none⟩ = some (.int .i64 r3.1.2.1) := hSw.2.1.c 1 (of_decide_eq_true rfl); have hc2 : wx.cell? ⟨w3.heap.size, 2, none⟩ = some (.int .i64 r3.1.2.2) := hSw.2.1.c 2 (of_decide_eq_true rfl); go_simp <;> with_reducible rfl)
  simp only [Act.put, List.setIfInBounds_toArray, List.set_cons_zero, List.set_cons_succ]
  refine call_at (i := 6) (by kernel_rfl) rfl (fun K hK => ?_)
  go_simp
  refine (vScale_any b r3.2 r3.1 q.2.2.2 _ (f3.alloc _).drew).mono ?_
  rintro e w4 ⟨rfl, f4, k4⟩
  generalize e4 : vScaleS r3.2 r3.1 q.2.2.2 = r4 at f4 ⊢
  have E4 : Hid _ := e4
  clear e4
  have K4 : Kept b w w4 := Kept.trans (K3.al _).drew k4
  have B0_4 : Arr w.heap.size [.int .i64 q.1, .int .i64 q.2.1, .int .i64 q.2.2.1, .int .i64 q.2.2.2] w4 := (B0_3.alloc _).drew.kept k4 (by omega)
  have B1_4 : Arr (w.heap.size + 1) [.int .i64 v.1, .int .i64 v.2.1, .int .i64 v.2.2] w4 := (B1_3.alloc _).drew.kept k4 (by omega)
  have B2_4 : Arr (w.heap.size + 1 + 1) [.int .i64 0, .int .i64 0, .int .i64 0] w4 := (B2_3.alloc _).drew.kept k4 (by omega)
  have B3_4 : Arr w1.heap.size [.int .i64 q.1, .int .i64 q.2.1, .int .i64 q.2.2.1] w4 := (B3_3.alloc _).drew.kept k4 (by omega)
  have B4_4 : Arr w3.heap.size [.int .i64 r3.1.1, .int .i64 r3.1.2.1, .int .i64 r3.1.2.2] w4 := (Arr_at _ _ [.int .i64 r3.1.1, .int .i64 r3.1.2.1, .int .i64 r3.1.2.2] _ (by simp)).drew.kept k4 (by omega)
  have z4 := B4_4.lies
  clear hHeld
  refine hK.out _ _ ⟨B1_4, B4_4, B3_4⟩ (fun hHeld => ?_)
  clear hK K K3 f3 B0_3 B1_3 B2_3 B3_3 k4
  refine call_at (i := 7) (by kernel_rfl) rfl (fun K hK => ?_)
  go_simp
  refine (vSub_any b r4.2 v r4.1 _ f4).mono ?_
  rintro e w5 ⟨rfl, f5, k5⟩
  generalize e5 : vSubS r4.2 v r4.1 = r5 at f5 ⊢
  have E5 : Hid _ := e5
  clear e5
  have K5 : Kept b w w5 := Kept.trans K4 k5
  have B0_5 : Arr w.heap.size [.int .i64 q.1, .int .i64 q.2.1, .int .i64 q.2.2.1, .int .i64 q.2.2.2] w5 := B0_4.kept k5 (by omega)
  have B1_5 : Arr (w.heap.size + 1) [.int .i64 v.1, .int .i64 v.2.1, .int .i64 v.2.2] w5 := B1_4.kept k5 (by omega)
  have B2_5 : Arr (w.heap.size + 1 + 1) [.int .i64 0, .int .i64 0, .int .i64 0] w5 := B2_4.kept k5 (by omega)
  have B3_5 : Arr w1.heap.size [.int .i64 q.1, .int .i64 q.2.1, .int .i64 q.2.2.1] w5 := B3_4.kept k5 (by omega)
  have B4_5 : Arr w3.heap.size [.int .i64 r3.1.1, .int .i64 r3.1.2.1, .int .i64 r3.1.2.2] w5 := B4_4.kept k5 (by omega)
  have z5 := B4_5.lies
  clear hHeld
  refine hK.out _ _ ⟨B1_5, B4_5, B3_5⟩ (fun hHeld => ?_)
  clear hK K K4 f4 B0_4 B1_4 B2_4 B3_4 B4_4 k5
  refine call_at (i := 11) (by kernel_rfl) rfl (fun K hK => ?_)
  go_simp
  refine (vCross_any b r5.2 (q.1, q.2.1, q.2.2.1) r3.1 _ f5).mono ?_
  rintro e w6 ⟨rfl, f6, k6⟩
  generalize e6 : vCrossS r5.2 (q.1, q.2.1, q.2.2.1) r3.1 = r6 at f6 ⊢
  have E6 : Hid _ := e6
  clear e6
  have K6 : Kept b w w6 := Kept.trans K5 k6
  have B0_6 : Arr w.heap.size [.int .i64 q.1, .int .i64 q.2.1, .int .i64 q.2.2.1, .int .i64 q.2.2.2] w6 := B0_5.kept k6 (by omega)
  have B1_6 : Arr (w.heap.size + 1) [.int .i64 v.1, .int .i64 v.2.1, .int .i64 v.2.2] w6 := B1_5.kept k6 (by omega)
  have B2_6 : Arr (w.heap.size + 1 + 1) [.int .i64 0, .int .i64 0, .int .i64 0] w6 := B2_5.kept k6 (by omega)
  have B3_6 : Arr w1.heap.size [.int .i64 q.1, .int .i64 q.2.1, .int .i64 q.2.2.1] w6 := B3_5.kept k6 (by omega)
  have B4_6 : Arr w3.heap.size [.int .i64 r3.1.1, .int .i64 r3.1.2.1, .int .i64 r3.1.2.2] w6 := B4_5.kept k6 (by omega)
  have z6 := B4_6.lies
  clear hHeld
  refine hK.out _ _ ⟨B1_6, B4_6, B3_6⟩ (fun hHeld => ?_)
  clear hK K K5 f5 B0_5 B1_5 B2_5 B3_5 B4_5 k6
  refine call_at (i := 12) (by kernel_rfl) rfl (fun K hK => ?_)
  go_simp
  refine (vAdd_any b r6.2 r5.1 r6.1 _ f6).mono ?_
  rintro e w7 ⟨rfl, f7, k7⟩
  generalize e7 : vAddS r6.2 r5.1 r6.1 = r7 at f7 ⊢
  have E7 : Hid _ := e7
  clear e7
  have K7 : Kept b w w7 := Kept.trans K6 k7
  have B0_7 : Arr w.heap.size [.int .i64 q.1, .int .i64 q.2.1, .int .i64 q.2.2.1, .int .i64 q.2.2.2] w7 := B0_6.kept k7 (by omega)
  have B1_7 : Arr (w.heap.size + 1) [.int .i64 v.1, .int .i64 v.2.1, .int .i64 v.2.2] w7 := B1_6.kept k7 (by omega)
  have B2_7 : Arr (w.heap.size + 1 + 1) [.int .i64 0, .int .i64 0, .int .i64 0] w7 := B2_6.kept k7 (by omega)
  have B3_7 : Arr w1.heap.size [.int .i64 q.1, .int .i64 q.2.1, .int .i64 q.2.2.1] w7 := B3_6.kept k7 (by omega)
  have B4_7 : Arr w3.heap.size [.int .i64 r3.1.1, .int .i64 r3.1.2.1, .int .i64 r3.1.2.2] w7 := B4_6.kept k7 (by omega)
  have z7 := B4_7.lies
  clear hHeld
  refine hK.out _ _ ⟨B1_7, B4_7, B3_7⟩ (fun hHeld => ?_)
  clear hK K K6 f6 B0_6 B1_6 B2_6 B3_6 B4_6 k7
  refine call_at (i := 13) (by kernel_rfl) rfl (fun K hK => ?_)
  have c5_B2_0 : w7.cell? ⟨w.heap.size + 1 + 1, 0, none⟩ = some (.int .i64 0) := B2_7.c 0 (of_decide_eq_true rfl)
  have c5_B2_1 : w7.cell? ⟨w.heap.size + 1 + 1, 1, none⟩ = some (.int .i64 0) := B2_7.c 1 (of_decide_eq_true rfl)
  have c5_B2_2 : w7.cell? ⟨w.heap.size + 1 + 1, 2, none⟩ = some (.int .i64 0) := B2_7.c 2 (of_decide_eq_true rfl)
  have g5_B2_0 := B2_7.f 0 (of_decide_eq_true rfl)
  have g5_B2_1 := B2_7.f 1 (of_decide_eq_true rfl)
  have g5_B2_2 := B2_7.f 2 (of_decide_eq_true rfl)
  go_simp
  clear hHeld
  refine hK.out _ _ ⟨(((B1_7.new _ _ (by omega) _).new _ _ (by omega) _).new _ _ (by omega) _), (((B4_7.new _ _ (by omega) _).new _ _ (by omega) _).new _ _ (by omega) _), (((B3_7.new _ _ (by omega) _).new _ _ (by omega) _).new _ _ (by omega) _)⟩ (fun hHeld => ?_)
  clear hK K c5_B2_0 c5_B2_1 c5_B2_2 g5_B2_0 g5_B2_1 g5_B2_2
  refine wpAnyH_done (by kernel_rfl) ?_ _
  clear hHeld
  go_wp2
  have d0 := Arr.c (B2_7.put 0 (of_decide_eq_true rfl) (.int .i64 r7.1.1) [.int .i64 r7.1.1, .int .i64 0, .int .i64 0] rfl) 0 (of_decide_eq_true rfl)
  have d1 := Arr.c ((B2_7.put 0 (of_decide_eq_true rfl) (.int .i64 r7.1.1) [.int .i64 r7.1.1, .int .i64 0, .int .i64 0] rfl).put 1 (of_decide_eq_true rfl) (.int .i64 r7.1.2.1) [.int .i64 r7.1.1, .int .i64 r7.1.2.1, .int .i64 0] rfl) 1 (of_decide_eq_true rfl)
  have d2 := Arr.c (((B2_7.put 0 (of_decide_eq_true rfl) (.int .i64 r7.1.1) [.int .i64 r7.1.1, .int .i64 0, .int .i64 0] rfl).put 1 (of_decide_eq_true rfl) (.int .i64 r7.1.2.1) [.int .i64 r7.1.1, .int .i64 r7.1.2.1, .int .i64 0] rfl).put 2 (of_decide_eq_true rfl) (.int .i64 r7.1.2.2) [.int .i64 r7.1.1, .int .i64 r7.1.2.1, .int .i64 r7.1.2.2] rfl) 2 (of_decide_eq_true rfl)
  refine bodyPost_ret (v := .agg #[.int .i64 r7.1.1, .int .i64 r7.1.2.1, .int .i64 r7.1.2.2]) (by simp [results, Try.results14, go_sem, d0, d1, d2]) rfl ?_
  have hs : qTurnS bad q v = (r7.1, r7.2) := by unfold qTurnS; simp only [E2.out, E3.out, E4.out, E5.out, E6.out, E7.out]
  rw [hs]
  exact ⟨rfl, (((f7.new _ _ (by omega) _).new _ _ (by omega) _).new _ _ (by omega) _), (((K7.new _ _ (by omega) _).new _ _ (by omega) _).new _ _ (by omega) _)⟩
end Go.Proofs.Ytkeijfbpkdelpaa
