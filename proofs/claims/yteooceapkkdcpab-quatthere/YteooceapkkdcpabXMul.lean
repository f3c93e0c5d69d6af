/-
  Walks of package alidaderef04, for the seat Yteooceapkkdcpab. (Made by mkref04.py.)
-/
import Derived.Test.YteooceapkkdcpabXBase
import Derived.Test.YteooceapkkdcpabUCode
import Derived.Test.YteooceapkkdcpabUCross
import Derived.Test.YteooceapkkdcpabRMeth
import Derived.Handy
import Derived.Deep.RegionHeld3
namespace Go.Proofs.Yteooceapkkdcpab
open Go.RowKit

set_option maxRecDepth 100000 in
set_option maxHeartbeats 2000000 in
theorem xMul_any (b : Nat) (bad : Bool) (p : V4) (q : V4) (w : World) (hw : Fl b bad w) :
    Calls Try.prog 12 #[.pointer (some ⟨b, 0, none⟩), .agg #[.int .i64 p.1, .int .i64 p.2.1, .int .i64 p.2.2.1, .int .i64 p.2.2.2], .agg #[.int .i64 q.1, .int .i64 q.2.1, .int .i64 q.2.2.1, .int .i64 q.2.2.2]] w fun e w' => e = .returned (.agg #[.int .i64 ((xMulS bad p q).1.1), .int .i64 ((xMulS bad p q).1.2.1), .int .i64 ((xMulS bad p q).1.2.2.1), .int .i64 ((xMulS bad p q).1.2.2.2)]) ∧ Fl b (xMulS bad p q).2 w' ∧ Kept b w w' := by
  have hl := hw.lies
  go_enter Try.func12, Try.ntmps12
  go_wp2_with fail
  refine (split_any p _).mono ?_
  rintro e w1 ⟨rfl, k1⟩
  have K1 : Kept b w w1 := Kept.trans ((((Kept.refl b w).al _).al _).al _) (Kept.of_below k1)
  have BF_1 : Fl b bad w1 := (((hw.alloc _).alloc _).alloc _).below k1
  have B0_1 : Arr w.heap.size [.int .i64 p.1, .int .i64 p.2.1, .int .i64 p.2.2.1, .int .i64 p.2.2.2] w1 := (((Arr_at _ _ [.int .i64 p.1, .int .i64 p.2.1, .int .i64 p.2.2.1, .int .i64 p.2.2.2] _ (by simp)).alloc _).alloc _).below k1
  have B1_1 : Arr (w.heap.size + 1) [.int .i64 q.1, .int .i64 q.2.1, .int .i64 q.2.2.1, .int .i64 q.2.2.2] w1 := ((Arr_at _ _ [.int .i64 q.1, .int .i64 q.2.1, .int .i64 q.2.2.1, .int .i64 q.2.2.2] _ (by simp)).alloc _).below k1
  have B2_1 : Arr (w.heap.size + 1 + 1) [.int .i64 0, .int .i64 0, .int .i64 0, .int .i64 0] w1 := (Arr_at _ _ [.int .i64 0, .int .i64 0, .int .i64 0, .int .i64 0] _ (by simp)).below k1
  have z1 := B2_1.lies
  clear k1
  have c2_B1_0 : w1.cell? ⟨w.heap.size + 1, 0, none⟩ = some (.int .i64 q.1) := B1_1.c 0 (of_decide_eq_true rfl)
  have c2_B1_1 : w1.cell? ⟨w.heap.size + 1, 1, none⟩ = some (.int .i64 q.2.1) := B1_1.c 1 (of_decide_eq_true rfl)
  have c2_B1_2 : w1.cell? ⟨w.heap.size + 1, 2, none⟩ = some (.int .i64 q.2.2.1) := B1_1.c 2 (of_decide_eq_true rfl)
  have c2_B1_3 : w1.cell? ⟨w.heap.size + 1, 3, none⟩ = some (.int .i64 q.2.2.2) := B1_1.c 3 (of_decide_eq_true rfl)
  have l2_B1 := B1_1.lies
  go_wp2_with fail
  refine (split_any q _).mono ?_
  rintro e w2 ⟨rfl, k2⟩
  have K2 : Kept b w w2 := Kept.trans (K1.al _) (Kept.of_below k2)
  have BF_2 : Fl b bad w2 := (BF_1.alloc _).below k2
  have B0_2 : Arr w.heap.size [.int .i64 p.1, .int .i64 p.2.1, .int .i64 p.2.2.1, .int .i64 p.2.2.2] w2 := (B0_1.alloc _).below k2
  have B1_2 : Arr (w.heap.size + 1) [.int .i64 q.1, .int .i64 q.2.1, .int .i64 q.2.2.1, .int .i64 q.2.2.2] w2 := (B1_1.alloc _).below k2
  have B2_2 : Arr (w.heap.size + 1 + 1) [.int .i64 0, .int .i64 0, .int .i64 0, .int .i64 0] w2 := (B2_1.alloc _).below k2
  have B3_2 : Arr w1.heap.size [.int .i64 p.1, .int .i64 p.2.1, .int .i64 p.2.2.1] w2 := (Arr_at _ _ [.int .i64 p.1, .int .i64 p.2.1, .int .i64 p.2.2.1] _ (by simp)).below k2
  have z2 := B3_2.lies
  clear c2_B1_0 c2_B1_1 c2_B1_2 c2_B1_3 l2_B1 K1 BF_1 B0_1 B1_1 B2_1 k2
  have c3_B3_0 : w2.cell? ⟨w1.heap.size, 0, none⟩ = some (.int .i64 p.1) := B3_2.c 0 (of_decide_eq_true rfl)
  have c3_B3_1 : w2.cell? ⟨w1.heap.size, 1, none⟩ = some (.int .i64 p.2.1) := B3_2.c 1 (of_decide_eq_true rfl)
  have c3_B3_2 : w2.cell? ⟨w1.heap.size, 2, none⟩ = some (.int .i64 p.2.2.1) := B3_2.c 2 (of_decide_eq_true rfl)
  have l3_B3 := B3_2.lies
  go_wp2_with fail
  refine (uScale_any b bad (p.1, p.2.1, p.2.2.1) q.2.2.2 _ (BF_2.alloc _)).mono ?_
  rintro e w3 ⟨rfl, f3, k3⟩
  generalize e3 : uScaleS bad (p.1, p.2.1, p.2.2.1) q.2.2.2 = r3 at f3 ⊢
  have E3 : Hid _ := e3
  clear e3
  have K3 : Kept b w w3 := Kept.trans (K2.al _) k3
  have B0_3 : Arr w.heap.size [.int .i64 p.1, .int .i64 p.2.1, .int .i64 p.2.2.1, .int .i64 p.2.2.2] w3 := (B0_2.alloc _).kept k3 (by omega)
  have B1_3 : Arr (w.heap.size + 1) [.int .i64 q.1, .int .i64 q.2.1, .int .i64 q.2.2.1, .int .i64 q.2.2.2] w3 := (B1_2.alloc _).kept k3 (by omega)
  have B2_3 : Arr (w.heap.size + 1 + 1) [.int .i64 0, .int .i64 0, .int .i64 0, .int .i64 0] w3 := (B2_2.alloc _).kept k3 (by omega)
  have B3_3 : Arr w1.heap.size [.int .i64 p.1, .int .i64 p.2.1, .int .i64 p.2.2.1] w3 := (B3_2.alloc _).kept k3 (by omega)
  have B4_3 : Arr w2.heap.size [.int .i64 q.1, .int .i64 q.2.1, .int .i64 q.2.2.1] w3 := (Arr_at _ _ [.int .i64 q.1, .int .i64 q.2.1, .int .i64 q.2.2.1] _ (by simp)).kept k3 (by omega)
  have z3 := B4_3.lies
  clear c3_B3_0 c3_B3_1 c3_B3_2 l3_B3 K2 BF_2 B0_2 B1_2 B2_2 B3_2 k3
  have c4_B4_0 : w3.cell? ⟨w2.heap.size, 0, none⟩ = some (.int .i64 q.1) := B4_3.c 0 (of_decide_eq_true rfl)
  have c4_B4_1 : w3.cell? ⟨w2.heap.size, 1, none⟩ = some (.int .i64 q.2.1) := B4_3.c 1 (of_decide_eq_true rfl)
  have c4_B4_2 : w3.cell? ⟨w2.heap.size, 2, none⟩ = some (.int .i64 q.2.2.1) := B4_3.c 2 (of_decide_eq_true rfl)
  have l4_B4 := B4_3.lies
  go_wp2_with fail
  refine (uScale_any b r3.2 (q.1, q.2.1, q.2.2.1) p.2.2.2 _ (f3.alloc _)).mono ?_
  rintro e w4 ⟨rfl, f4, k4⟩
  generalize e4 : uScaleS r3.2 (q.1, q.2.1, q.2.2.1) p.2.2.2 = r4 at f4 ⊢
  have E4 : Hid _ := e4
  clear e4
  have K4 : Kept b w w4 := Kept.trans (K3.al _) k4
  have B0_4 : Arr w.heap.size [.int .i64 p.1, .int .i64 p.2.1, .int .i64 p.2.2.1, .int .i64 p.2.2.2] w4 := (B0_3.alloc _).kept k4 (by omega)
  have B1_4 : Arr (w.heap.size + 1) [.int .i64 q.1, .int .i64 q.2.1, .int .i64 q.2.2.1, .int .i64 q.2.2.2] w4 := (B1_3.alloc _).kept k4 (by omega)
  have B2_4 : Arr (w.heap.size + 1 + 1) [.int .i64 0, .int .i64 0, .int .i64 0, .int .i64 0] w4 := (B2_3.alloc _).kept k4 (by omega)
  have B3_4 : Arr w1.heap.size [.int .i64 p.1, .int .i64 p.2.1, .int .i64 p.2.2.1] w4 := (B3_3.alloc _).kept k4 (by omega)
  have B4_4 : Arr w2.heap.size [.int .i64 q.1, .int .i64 q.2.1, .int .i64 q.2.2.1] w4 := (B4_3.alloc _).kept k4 (by omega)
  have B5_4 : Arr w3.heap.size [.int .i64 r3.1.1, .int .i64 r3.1.2.1, .int .i64 r3.1.2.2] w4 := (Arr_at _ _ [.int .i64 r3.1.1, .int .i64 r3.1.2.1, .int .i64 r3.1.2.2] _ (by simp)).kept k4 (by omega)
  have z4 := B5_4.lies
  clear c4_B4_0 c4_B4_1 c4_B4_2 l4_B4 K3 f3 B0_3 B1_3 B2_3 B3_3 B4_3 k4
  have c5_B3_0 : w4.cell? ⟨w1.heap.size, 0, none⟩ = some (.int .i64 p.1) := B3_4.c 0 (of_decide_eq_true rfl)
  have c5_B3_1 : w4.cell? ⟨w1.heap.size, 1, none⟩ = some (.int .i64 p.2.1) := B3_4.c 1 (of_decide_eq_true rfl)
  have c5_B3_2 : w4.cell? ⟨w1.heap.size, 2, none⟩ = some (.int .i64 p.2.2.1) := B3_4.c 2 (of_decide_eq_true rfl)
  have c5_B4_0 : w4.cell? ⟨w2.heap.size, 0, none⟩ = some (.int .i64 q.1) := B4_4.c 0 (of_decide_eq_true rfl)
  have c5_B4_1 : w4.cell? ⟨w2.heap.size, 1, none⟩ = some (.int .i64 q.2.1) := B4_4.c 1 (of_decide_eq_true rfl)
  have c5_B4_2 : w4.cell? ⟨w2.heap.size, 2, none⟩ = some (.int .i64 q.2.2.1) := B4_4.c 2 (of_decide_eq_true rfl)
  have l5_B3 := B3_4.lies
  have l5_B4 := B4_4.lies
  go_wp2_with fail
  refine (uCross_any b r4.2 (q.1, q.2.1, q.2.2.1) (p.1, p.2.1, p.2.2.1) _ (f4.alloc _)).mono ?_
  rintro e w5 ⟨rfl, f5, k5⟩
  generalize e5 : uCrossS r4.2 (q.1, q.2.1, q.2.2.1) (p.1, p.2.1, p.2.2.1) = r5 at f5 ⊢
  have E5 : Hid _ := e5
  clear e5
  have K5 : Kept b w w5 := Kept.trans (K4.al _) k5
  have B0_5 : Arr w.heap.size [.int .i64 p.1, .int .i64 p.2.1, .int .i64 p.2.2.1, .int .i64 p.2.2.2] w5 := (B0_4.alloc _).kept k5 (by omega)
  have B1_5 : Arr (w.heap.size + 1) [.int .i64 q.1, .int .i64 q.2.1, .int .i64 q.2.2.1, .int .i64 q.2.2.2] w5 := (B1_4.alloc _).kept k5 (by omega)
  have B2_5 : Arr (w.heap.size + 1 + 1) [.int .i64 0, .int .i64 0, .int .i64 0, .int .i64 0] w5 := (B2_4.alloc _).kept k5 (by omega)
  have B3_5 : Arr w1.heap.size [.int .i64 p.1, .int .i64 p.2.1, .int .i64 p.2.2.1] w5 := (B3_4.alloc _).kept k5 (by omega)
  have B4_5 : Arr w2.heap.size [.int .i64 q.1, .int .i64 q.2.1, .int .i64 q.2.2.1] w5 := (B4_4.alloc _).kept k5 (by omega)
  have B5_5 : Arr w3.heap.size [.int .i64 r3.1.1, .int .i64 r3.1.2.1, .int .i64 r3.1.2.2] w5 := (B5_4.alloc _).kept k5 (by omega)
  have B6_5 : Arr w4.heap.size [.int .i64 r4.1.1, .int .i64 r4.1.2.1, .int .i64 r4.1.2.2] w5 := (Arr_at _ _ [.int .i64 r4.1.1, .int .i64 r4.1.2.1, .int .i64 r4.1.2.2] _ (by simp)).kept k5 (by omega)
  have z5 := B6_5.lies
  clear c5_B3_0 c5_B3_1 c5_B3_2 c5_B4_0 c5_B4_1 c5_B4_2 l5_B3 l5_B4 K4 f4 B0_4 B1_4 B2_4 B3_4 B4_4 B5_4 k5
  go_wp2_with fail
  rename_i K0 aK0
  have cont1 : ∀ (W1 : World) (t1_16 t1_17 t1_18 t1_19 t1_20 t1_21 t1_22 t1_23 t1_24 t1_25 t1_26 t1_27 t1_28 t1_29 t1_30 t1_31 t1_32 t1_33 t1_34 t1_35 t1_36 t1_37 t1_38 t1_39 t1_40 t1_41 t1_42 t1_43 t1_44 : Value) (x1_0 : Nat) (r6 : _) (r7 : _) , Hid (uAddS r5.2 r3.1 r4.1 = r6) → Hid (uAddS r6.2 r6.1 r5.1 = r7) → Kept b w W1 → Fl b r7.2 W1 → Arr w.heap.size [.int .i64 p.1, .int .i64 p.2.1, .int .i64 p.2.2.1, .int .i64 p.2.2.2] W1 → Arr (w.heap.size + 1) [.int .i64 q.1, .int .i64 q.2.1, .int .i64 q.2.2.1, .int .i64 q.2.2.2] W1 → Arr (w.heap.size + 1 + 1) [.int .i64 0, .int .i64 0, .int .i64 0, .int .i64 0] W1 → Arr w1.heap.size [.int .i64 p.1, .int .i64 p.2.1, .int .i64 p.2.2.1] W1 → Arr w2.heap.size [.int .i64 q.1, .int .i64 q.2.1, .int .i64 q.2.2.1] W1 → Arr w3.heap.size [.int .i64 r3.1.1, .int .i64 r3.1.2.1, .int .i64 r3.1.2.2] W1 → Arr w4.heap.size [.int .i64 r4.1.1, .int .i64 r4.1.2.1, .int .i64 r4.1.2.2] W1 → Arr w5.heap.size [.int .i64 r5.1.1, .int .i64 r5.1.2.1, .int .i64 r5.1.2.2] W1 → Arr x1_0 [.int .i64 r7.1.1, .int .i64 r7.1.2.1, .int .i64 r7.1.2.2] W1 → w.heap.size ≤ x1_0 → b < x1_0 → w.heap.size < x1_0 → w.heap.size + 1 < x1_0 → w.heap.size + 1 + 1 < x1_0 → w1.heap.size < x1_0 → w2.heap.size < x1_0 → w3.heap.size < x1_0 → w4.heap.size < x1_0 → w5.heap.size < x1_0 → K0 { tmps := #[.pointer (some ⟨b, 0, none⟩), .agg #[.int .i64 p.1, .int .i64 p.2.1, .int .i64 p.2.2.1, .int .i64 p.2.2.2], .agg #[.int .i64 q.1, .int .i64 q.2.1, .int .i64 q.2.2.1, .int .i64 q.2.2.2], undef, .pointer (some ⟨w.heap.size, 0, none⟩), .pointer (some ⟨w.heap.size + 1, 0, none⟩), .pointer (some ⟨w.heap.size + 1 + 1, 0, none⟩), .pointer (some ⟨w1.heap.size, 0, none⟩), .int .i64 p.2.2.2, .pointer (some ⟨w2.heap.size, 0, none⟩), .int .i64 q.2.2.2, .pointer (some ⟨w3.heap.size, 0, none⟩), .pointer (some ⟨w4.heap.size, 0, none⟩), .pointer (some ⟨w5.heap.size, 0, none⟩), .pointer (some ⟨x1_0, 0, none⟩), undef, t1_16, t1_17, t1_18, t1_19, t1_20, t1_21, t1_22, t1_23, t1_24, t1_25, t1_26, t1_27, t1_28, t1_29, t1_30, t1_31, t1_32, t1_33, t1_34, t1_35, t1_36, t1_37, t1_38, t1_39, t1_40, t1_41, t1_42, t1_43, t1_44, undef, undef, undef, undef, undef, undef, undef, undef, undef, undef, undef, undef, undef, undef], defers := [] } W1 := by
    intro W1 t1_16 t1_17 t1_18 t1_19 t1_20 t1_21 t1_22 t1_23 t1_24 t1_25 t1_26 t1_27 t1_28 t1_29 t1_30 t1_31 t1_32 t1_33 t1_34 t1_35 t1_36 t1_37 t1_38 t1_39 t1_40 t1_41 t1_42 t1_43 t1_44 x1_0 r6 r7 E6 E7 KC1 BF_c1 B0_c1 B1_c1 B2_c1 B3_c1 B4_c1 B5_c1 B6_c1 B7_c1 B8_c1 s1_0 s1_1 s1_2 s1_3 s1_4 s1_5 s1_6 s1_7 s1_8 s1_9
    apply aK0
    go_wp2_with fail
    refine wp_region_held_drew (S := fun w' => Arr w1.heap.size [.int .i64 p.1, .int .i64 p.2.1, .int .i64 p.2.2.1] w' ∧ Arr w2.heap.size [.int .i64 q.1, .int .i64 q.2.1, .int .i64 q.2.2.1] w') (by kernel_rfl) ⟨B3_c1.drew, B4_c1.drew⟩ (fun hHeld => ?_)
    refine take_at (i := 0) (v := ?v11) rfl (by kernel_rfl) (by kernel_rfl) (by kernel_rfl) (fun _ _ _ h => h) (Or.inl ⟨by rfl, ?y11⟩) hHeld ?t11
    case y11 => (intro wx hSw; go_simp <;> with_reducible rfl)
    simp only [Act.put, List.setIfInBounds_toArray, List.set_cons_zero, List.set_cons_succ]
    refine take_at (i := 1) (v := ?v12) rfl (by kernel_rfl) (by kernel_rfl) (by kernel_rfl) (fun _ _ _ h => h) (Or.inl ⟨by rfl, ?y12⟩) hHeld ?t12
    case y12 => (intro wx hSw; go_simp <;> with_reducible rfl)
    simp only [Act.put, List.setIfInBounds_toArray, List.set_cons_zero, List.set_cons_succ]
    refine take_at (i := 2) (v := ?v13) rfl (by kernel_rfl) (by kernel_rfl) (by kernel_rfl) (fun _ _ _ h => h) (Or.inl ⟨by rfl, ?y13⟩) hHeld ?t13
    case y13 => (intro wx hSw; go_simp <;> with_reducible rfl)
    simp only [Act.put, List.setIfInBounds_toArray, List.set_cons_zero, List.set_cons_succ]
    refine take_at (i := 3) (v := ?v14) rfl (by kernel_rfl) (by kernel_rfl) (by kernel_rfl) (fun _ _ _ h => h) (Or.inl ⟨by rfl, ?y14⟩) hHeld ?t14
    case y14 => (intro wx hSw; go_simp <;> with_reducible rfl)
    simp only [Act.put, List.setIfInBounds_toArray, List.set_cons_zero, List.set_cons_succ]
    refine take_at (i := 5) (v := ?v15) rfl (by kernel_rfl) (by kernel_rfl) (by kernel_rfl) (fun _ _ _ h => h) (Or.inl ⟨by rfl, ?y15⟩) hHeld ?t15
    case y15 => (intro wx hSw; go_simp <;> with_reducible rfl)
    simp only [Act.put, List.setIfInBounds_toArray, List.set_cons_zero, List.set_cons_succ]
    refine take_at (i := 6) (v := ?v16) rfl (by kernel_rfl) (by kernel_rfl) (by kernel_rfl) (fun _ _ _ h => h) (Or.inl ⟨by rfl, ?y16⟩) hHeld ?t16
    case y16 => (intro wx hSw; have hc0 : wx.cell? ⟨w1.heap.size, 0, none⟩ = some (.int .i64 p.1) := hSw.1.c 0 (of_decide_eq_true rfl); have hc1 : wx.cell? ⟨w1.heap.size, 1, none⟩ = some (.int .i64 p.2.1) := hSw.1.c 1 (of_decide_eq_true rfl); have hc2 : wx.cell? ⟨w1.heap.size, 2, none⟩ = some (.int .i64 p.2.2.1) := hSw.1.c 2 (of_decide_eq_true rfl); go_simp <;> with_reducible rfl)
    simp only [Act.put, List.setIfInBounds_toArray, List.set_cons_zero, List.set_cons_succ]
    refine take_at (i := 7) (v := ?v17) rfl (by kernel_rfl) (by kernel_rfl) (by kernel_rfl) (fun _ _ _ h => h) (Or.inl ⟨by rfl, ?y17⟩) hHeld ?t17
    case y17 => (intro wx hSw; have hc0 : wx.cell? ⟨w2.heap.size, 0, none⟩ = some (.int .i64 q.1) := hSw.2.c 0 (of_decide_eq_true rfl); have hc1 : wx.cell? ⟨w2.heap.size, 1, none⟩ = some (.int .i64 q.2.1) := hSw.2.c 1 (of_decide_eq_true rfl); have hc2 : wx.cell? ⟨w2.heap.size, 2, none⟩ = some (.int .i64 q.2.2.1) := hSw.2.c 2 (of_decide_eq_true rfl); go_simp <;> with_reducible rfl)
    simp only [Act.put, List.setIfInBounds_toArray, List.set_cons_zero, List.set_cons_succ]
    refine call_at (i := 4) (by kernel_rfl) rfl (fun K hK => ?_)
    go_simp
    refine (rMul_any b r7.2 p.2.2.2 q.2.2.2 _ BF_c1.drew).mono ?_
    rintro e w8 ⟨rfl, f8, k8⟩
    generalize e8 : mulS r7.2 p.2.2.2 q.2.2.2 = r8 at f8 ⊢
    have E8 : Hid _ := e8
    clear e8
    have K8 : Kept b w w8 := Kept.trans KC1.drew k8
    have B0_8 : Arr w.heap.size [.int .i64 p.1, .int .i64 p.2.1, .int .i64 p.2.2.1, .int .i64 p.2.2.2] w8 := B0_c1.drew.kept k8 (by omega)
    have B1_8 : Arr (w.heap.size + 1) [.int .i64 q.1, .int .i64 q.2.1, .int .i64 q.2.2.1, .int .i64 q.2.2.2] w8 := B1_c1.drew.kept k8 (by omega)
    have B2_8 : Arr (w.heap.size + 1 + 1) [.int .i64 0, .int .i64 0, .int .i64 0, .int .i64 0] w8 := B2_c1.drew.kept k8 (by omega)
    have B3_8 : Arr w1.heap.size [.int .i64 p.1, .int .i64 p.2.1, .int .i64 p.2.2.1] w8 := B3_c1.drew.kept k8 (by omega)
    have B4_8 : Arr w2.heap.size [.int .i64 q.1, .int .i64 q.2.1, .int .i64 q.2.2.1] w8 := B4_c1.drew.kept k8 (by omega)
    have B5_8 : Arr w3.heap.size [.int .i64 r3.1.1, .int .i64 r3.1.2.1, .int .i64 r3.1.2.2] w8 := B5_c1.drew.kept k8 (by omega)
    have B6_8 : Arr w4.heap.size [.int .i64 r4.1.1, .int .i64 r4.1.2.1, .int .i64 r4.1.2.2] w8 := B6_c1.drew.kept k8 (by omega)
    have B7_8 : Arr w5.heap.size [.int .i64 r5.1.1, .int .i64 r5.1.2.1, .int .i64 r5.1.2.2] w8 := B7_c1.drew.kept k8 (by omega)
    have B8_8 : Arr x1_0 [.int .i64 r7.1.1, .int .i64 r7.1.2.1, .int .i64 r7.1.2.2] w8 := B8_c1.drew.kept k8 (by omega)
    have z8 := B8_8.lies
    clear hHeld
    refine hK.out _ _ ⟨B3_8, B4_8⟩ (fun hHeld => ?_)
    clear hK K BF_c1 B0_c1 B1_c1 B2_c1 B3_c1 B4_c1 B5_c1 B6_c1 B7_c1 B8_c1 k8
    refine call_at (i := 8) (by kernel_rfl) rfl (fun K hK => ?_)
    go_simp
    refine (uDot_any b r8.2 (p.1, p.2.1, p.2.2.1) (q.1, q.2.1, q.2.2.1) _ f8).mono ?_
    rintro e w9 ⟨rfl, f9, k9⟩
    generalize e9 : uDotS r8.2 (p.1, p.2.1, p.2.2.1) (q.1, q.2.1, q.2.2.1) = r9 at f9 ⊢
    have E9 : Hid _ := e9
    clear e9
    have K9 : Kept b w w9 := Kept.trans K8 k9
    have B0_9 : Arr w.heap.size [.int .i64 p.1, .int .i64 p.2.1, .int .i64 p.2.2.1, .int .i64 p.2.2.2] w9 := B0_8.kept k9 (by omega)
    have B1_9 : Arr (w.heap.size + 1) [.int .i64 q.1, .int .i64 q.2.1, .int .i64 q.2.2.1, .int .i64 q.2.2.2] w9 := B1_8.kept k9 (by omega)
    have B2_9 : Arr (w.heap.size + 1 + 1) [.int .i64 0, .int .i64 0, .int .i64 0, .int .i64 0] w9 := B2_8.kept k9 (by omega)
    have B3_9 : Arr w1.heap.size [.int .i64 p.1, .int .i64 p.2.1, .int .i64 p.2.2.1] w9 := B3_8.kept k9 (by omega)
    have B4_9 : Arr w2.heap.size [.int .i64 q.1, .int .i64 q.2.1, .int .i64 q.2.2.1] w9 := B4_8.kept k9 (by omega)
    have B5_9 : Arr w3.heap.size [.int .i64 r3.1.1, .int .i64 r3.1.2.1, .int .i64 r3.1.2.2] w9 := B5_8.kept k9 (by omega)
    have B6_9 : Arr w4.heap.size [.int .i64 r4.1.1, .int .i64 r4.1.2.1, .int .i64 r4.1.2.2] w9 := B6_8.kept k9 (by omega)
    have B7_9 : Arr w5.heap.size [.int .i64 r5.1.1, .int .i64 r5.1.2.1, .int .i64 r5.1.2.2] w9 := B7_8.kept k9 (by omega)
    have B8_9 : Arr x1_0 [.int .i64 r7.1.1, .int .i64 r7.1.2.1, .int .i64 r7.1.2.2] w9 := B8_8.kept k9 (by omega)
    have z9 := B8_9.lies
    clear hHeld
    refine hK.out _ _ ⟨B3_9, B4_9⟩ (fun hHeld => ?_)
    clear hK K K8 f8 B0_8 B1_8 B2_8 B3_8 B4_8 B5_8 B6_8 B7_8 B8_8 k9
    refine call_at (i := 9) (by kernel_rfl) rfl (fun K hK => ?_)
    go_simp
    refine (rSub_any b r9.2 r8.1 r9.1 _ f9).mono ?_
    rintro e w10 ⟨rfl, f10, k10⟩
    generalize e10 : subS r9.2 r8.1 r9.1 = r10 at f10 ⊢
    have E10 : Hid _ := e10
    clear e10
    have K10 : Kept b w w10 := Kept.trans K9 k10
    have B0_10 : Arr w.heap.size [.int .i64 p.1, .int .i64 p.2.1, .int .i64 p.2.2.1, .int .i64 p.2.2.2] w10 := B0_9.kept k10 (by omega)
    have B1_10 : Arr (w.heap.size + 1) [.int .i64 q.1, .int .i64 q.2.1, .int .i64 q.2.2.1, .int .i64 q.2.2.2] w10 := B1_9.kept k10 (by omega)
    have B2_10 : Arr (w.heap.size + 1 + 1) [.int .i64 0, .int .i64 0, .int .i64 0, .int .i64 0] w10 := B2_9.kept k10 (by omega)
    have B3_10 : Arr w1.heap.size [.int .i64 p.1, .int .i64 p.2.1, .int .i64 p.2.2.1] w10 := B3_9.kept k10 (by omega)
    have B4_10 : Arr w2.heap.size [.int .i64 q.1, .int .i64 q.2.1, .int .i64 q.2.2.1] w10 := B4_9.kept k10 (by omega)
    have B5_10 : Arr w3.heap.size [.int .i64 r3.1.1, .int .i64 r3.1.2.1, .int .i64 r3.1.2.2] w10 := B5_9.kept k10 (by omega)
    have B6_10 : Arr w4.heap.size [.int .i64 r4.1.1, .int .i64 r4.1.2.1, .int .i64 r4.1.2.2] w10 := B6_9.kept k10 (by omega)
    have B7_10 : Arr w5.heap.size [.int .i64 r5.1.1, .int .i64 r5.1.2.1, .int .i64 r5.1.2.2] w10 := B7_9.kept k10 (by omega)
    have B8_10 : Arr x1_0 [.int .i64 r7.1.1, .int .i64 r7.1.2.1, .int .i64 r7.1.2.2] w10 := B8_9.kept k10 (by omega)
    have z10 := B8_10.lies
    clear hHeld
    refine hK.out _ _ ⟨B3_10, B4_10⟩ (fun hHeld => ?_)
    clear hK K K9 f9 B0_9 B1_9 B2_9 B3_9 B4_9 B5_9 B6_9 B7_9 B8_9 k10
    refine take_at (i := 10) (v := ?v18) rfl (by kernel_rfl) (by kernel_rfl) (by kernel_rfl) (fun _ _ _ h => h) (Or.inl ⟨by rfl, ?y18⟩) hHeld ?t18
    case y18 => (intro wx hSw; go_simp <;> with_reducible rfl)
    simp only [Act.put, List.setIfInBounds_toArray, List.set_cons_zero, List.set_cons_succ]
    refine wpAnyH_done (by kernel_rfl) ?_ _
    clear hHeld
    have c8_B8_0 : w10.cell? ⟨x1_0, 0, none⟩ = some (.int .i64 r7.1.1) := B8_10.c 0 (of_decide_eq_true rfl)
    have c8_B8_1 : w10.cell? ⟨x1_0, 1, none⟩ = some (.int .i64 r7.1.2.1) := B8_10.c 1 (of_decide_eq_true rfl)
    have c8_B8_2 : w10.cell? ⟨x1_0, 2, none⟩ = some (.int .i64 r7.1.2.2) := B8_10.c 2 (of_decide_eq_true rfl)
    go_wp2_with fail
    refine (xjoin_any b r10.2 r7.1 r10.1 _ f10).mono ?_
    rintro e w11 ⟨rfl, f11, k11⟩
    generalize e11 : xjoinS r10.2 r7.1 r10.1 = r11 at f11 ⊢
    have E11 : Hid _ := e11
    clear e11
    have K11 : Kept b w w11 := Kept.trans K10 k11
    have B0_11 : Arr w.heap.size [.int .i64 p.1, .int .i64 p.2.1, .int .i64 p.2.2.1, .int .i64 p.2.2.2] w11 := B0_10.kept k11 (by omega)
    have B1_11 : Arr (w.heap.size + 1) [.int .i64 q.1, .int .i64 q.2.1, .int .i64 q.2.2.1, .int .i64 q.2.2.2] w11 := B1_10.kept k11 (by omega)
    have B2_11 : Arr (w.heap.size + 1 + 1) [.int .i64 0, .int .i64 0, .int .i64 0, .int .i64 0] w11 := B2_10.kept k11 (by omega)
    have B3_11 : Arr w1.heap.size [.int .i64 p.1, .int .i64 p.2.1, .int .i64 p.2.2.1] w11 := B3_10.kept k11 (by omega)
    have B4_11 : Arr w2.heap.size [.int .i64 q.1, .int .i64 q.2.1, .int .i64 q.2.2.1] w11 := B4_10.kept k11 (by omega)
    have B5_11 : Arr w3.heap.size [.int .i64 r3.1.1, .int .i64 r3.1.2.1, .int .i64 r3.1.2.2] w11 := B5_10.kept k11 (by omega)
    have B6_11 : Arr w4.heap.size [.int .i64 r4.1.1, .int .i64 r4.1.2.1, .int .i64 r4.1.2.2] w11 := B6_10.kept k11 (by omega)
    have B7_11 : Arr w5.heap.size [.int .i64 r5.1.1, .int .i64 r5.1.2.1, .int .i64 r5.1.2.2] w11 := B7_10.kept k11 (by omega)
    have B8_11 : Arr x1_0 [.int .i64 r7.1.1, .int .i64 r7.1.2.1, .int .i64 r7.1.2.2] w11 := B8_10.kept k11 (by omega)
    have z11 := B8_11.lies
    clear c8_B8_0 c8_B8_1 c8_B8_2 K10 f10 B0_10 B1_10 B2_10 B3_10 B4_10 B5_10 B6_10 B7_10 B8_10 k11
    have c9_B2_0 : w11.cell? ⟨w.heap.size + 1 + 1, 0, none⟩ = some (.int .i64 0) := B2_11.c 0 (of_decide_eq_true rfl)
    have c9_B2_1 : w11.cell? ⟨w.heap.size + 1 + 1, 1, none⟩ = some (.int .i64 0) := B2_11.c 1 (of_decide_eq_true rfl)
    have c9_B2_2 : w11.cell? ⟨w.heap.size + 1 + 1, 2, none⟩ = some (.int .i64 0) := B2_11.c 2 (of_decide_eq_true rfl)
    have c9_B2_3 : w11.cell? ⟨w.heap.size + 1 + 1, 3, none⟩ = some (.int .i64 0) := B2_11.c 3 (of_decide_eq_true rfl)
    have g9_B2_0 := B2_11.f 0 (of_decide_eq_true rfl)
    have g9_B2_1 := B2_11.f 1 (of_decide_eq_true rfl)
    have g9_B2_2 := B2_11.f 2 (of_decide_eq_true rfl)
    have g9_B2_3 := B2_11.f 3 (of_decide_eq_true rfl)
    go_wp2
    clear c9_B2_0 c9_B2_1 c9_B2_2 c9_B2_3 g9_B2_0 g9_B2_1 g9_B2_2 g9_B2_3
    have d0 := Arr.c (B2_11.put 0 (of_decide_eq_true rfl) (.int .i64 r11.1.1) [.int .i64 r11.1.1, .int .i64 0, .int .i64 0, .int .i64 0] rfl) 0 (of_decide_eq_true rfl)
    have d1 := Arr.c ((B2_11.put 0 (of_decide_eq_true rfl) (.int .i64 r11.1.1) [.int .i64 r11.1.1, .int .i64 0, .int .i64 0, .int .i64 0] rfl).put 1 (of_decide_eq_true rfl) (.int .i64 r11.1.2.1) [.int .i64 r11.1.1, .int .i64 r11.1.2.1, .int .i64 0, .int .i64 0] rfl) 1 (of_decide_eq_true rfl)
    have d2 := Arr.c (((B2_11.put 0 (of_decide_eq_true rfl) (.int .i64 r11.1.1) [.int .i64 r11.1.1, .int .i64 0, .int .i64 0, .int .i64 0] rfl).put 1 (of_decide_eq_true rfl) (.int .i64 r11.1.2.1) [.int .i64 r11.1.1, .int .i64 r11.1.2.1, .int .i64 0, .int .i64 0] rfl).put 2 (of_decide_eq_true rfl) (.int .i64 r11.1.2.2.1) [.int .i64 r11.1.1, .int .i64 r11.1.2.1, .int .i64 r11.1.2.2.1, .int .i64 0] rfl) 2 (of_decide_eq_true rfl)
    have d3 := Arr.c ((((B2_11.put 0 (of_decide_eq_true rfl) (.int .i64 r11.1.1) [.int .i64 r11.1.1, .int .i64 0, .int .i64 0, .int .i64 0] rfl).put 1 (of_decide_eq_true rfl) (.int .i64 r11.1.2.1) [.int .i64 r11.1.1, .int .i64 r11.1.2.1, .int .i64 0, .int .i64 0] rfl).put 2 (of_decide_eq_true rfl) (.int .i64 r11.1.2.2.1) [.int .i64 r11.1.1, .int .i64 r11.1.2.1, .int .i64 r11.1.2.2.1, .int .i64 0] rfl).put 3 (of_decide_eq_true rfl) (.int .i64 r11.1.2.2.2) [.int .i64 r11.1.1, .int .i64 r11.1.2.1, .int .i64 r11.1.2.2.1, .int .i64 r11.1.2.2.2] rfl) 3 (of_decide_eq_true rfl)
    refine bodyPost_ret (v := .agg #[.int .i64 r11.1.1, .int .i64 r11.1.2.1, .int .i64 r11.1.2.2.1, .int .i64 r11.1.2.2.2]) (by simp [results, Try.results12, go_sem, d0, d1, d2, d3]) rfl ?_
    have hs : xMulS bad p q = (r11.1, r11.2) := by unfold xMulS; simp only [E3.out, E4.out, E5.out, E6.out, E7.out, E8.out, E9.out, E10.out, E11.out]
    rw [hs]
    exact ⟨rfl, ((((f11.new (w.heap.size + 1 + 1) 0 (by omega) (.int .i64 r11.1.1)).new (w.heap.size + 1 + 1) 1 (by omega) (.int .i64 r11.1.2.1)).new (w.heap.size + 1 + 1) 2 (by omega) (.int .i64 r11.1.2.2.1)).new (w.heap.size + 1 + 1) 3 (by omega) (.int .i64 r11.1.2.2.2)), ((((K11.new _ _ (by omega) _).new _ _ (by omega) _).new _ _ (by omega) _).new _ _ (by omega) _)⟩
  refine wp_region_held_drew (S := fun w' => Arr w3.heap.size [.int .i64 r3.1.1, .int .i64 r3.1.2.1, .int .i64 r3.1.2.2] w' ∧ Arr w4.heap.size [.int .i64 r4.1.1, .int .i64 r4.1.2.1, .int .i64 r4.1.2.2] w' ∧ Arr w5.heap.size [.int .i64 r5.1.1, .int .i64 r5.1.2.1, .int .i64 r5.1.2.2] w') (by kernel_rfl) ⟨(B5_5.alloc _).drew, (B6_5.alloc _).drew, (Arr_at _ _ [.int .i64 r5.1.1, .int .i64 r5.1.2.1, .int .i64 r5.1.2.2] _ (by simp)).drew⟩ (fun hHeld => ?_)
  refine take_at (i := 0) (v := ?v19) rfl (by kernel_rfl) (by kernel_rfl) (by kernel_rfl) (fun _ _ _ h => h) (Or.inl ⟨by rfl, ?y19⟩) hHeld ?t19
  case y19 => (intro wx hSw; go_simp <;> with_reducible rfl)
  simp only [Act.put, List.setIfInBounds_toArray, List.set_cons_zero, List.set_cons_succ]
  refine take_at (i := 1) (v := ?v20) rfl (by kernel_rfl) (by kernel_rfl) (by kernel_rfl) (fun _ _ _ h => h) (Or.inl ⟨by rfl, ?y20⟩) hHeld ?t20
  case y20 => (intro wx hSw; go_simp <;> with_reducible rfl)
  simp only [Act.put, List.setIfInBounds_toArray, List.set_cons_zero, List.set_cons_succ]
  refine take_at (i := 2) (v := ?v21) rfl (by kernel_rfl) (by kernel_rfl) (by kernel_rfl) (fun _ _ _ h => h) (Or.inl ⟨by rfl, ?y21⟩) hHeld ?t21
  case y21 => (intro wx hSw; have hc0 : wx.cell? ⟨w3.heap.size, 0, none⟩ = some (.int .i64 r3.1.1) := hSw.1.c 0 (of_decide_eq_true rfl); have hc1 : wx.cell? ⟨w3.heap.size, 1, none⟩ = some (.int .i64 r3.1.2.1) := hSw.1.c 1 (of_decide_eq_true rfl); have hc2 : wx.cell? ⟨w3.heap.size, 2, none⟩ = some (.int .i64 r3.1.2.2) := hSw.1.c 2 (of_decide_eq_true rfl); go_simp <;> with_reducible rfl)
  simp only [Act.put, List.setIfInBounds_toArray, List.set_cons_zero, List.set_cons_succ]
  refine take_at (i := 3) (v := ?v22) rfl (by kernel_rfl) (by kernel_rfl) (by kernel_rfl) (fun _ _ _ h => h) (Or.inl ⟨by rfl, ?y22⟩) hHeld ?t22
  case y22 => (intro wx hSw; have hc0 : wx.cell? ⟨w4.heap.size, 0, none⟩ = some (.int .i64 r4.1.1) := hSw.2.1.c 0 (of_decide_eq_true rfl); have hc1 : wx.cell? ⟨w4.heap.size, 1, none⟩ = some (.int .i64 r4.1.2.1) := hSw.2.1.c 1 (of_decide_eq_true rfl); have hc2 : wx.cell? ⟨w4.heap.size, 2, none⟩ = some (.int .i64 r4.1.2.2) := hSw.2.1.c 2 (of_decide_eq_true rfl); go_simp <;> with_reducible rfl)
  simp only [Act.put, List.setIfInBounds_toArray, List.set_cons_zero, List.set_cons_succ]
  refine take_at (i := 5) (v := ?v23) rfl (by kernel_rfl) (by kernel_rfl) (by kernel_rfl) (fun _ _ _ h => h) (Or.inl ⟨by rfl, ?y23⟩) hHeld ?t23
  case y23 => (intro wx hSw; have hc0 : wx.cell? ⟨w5.heap.size, 0, none⟩ = some (.int .i64 r5.1.1) := hSw.2.2.c 0 (of_decide_eq_true rfl); have hc1 : wx.cell? ⟨w5.heap.size, 1, none⟩ = some (.int .i64 r5.1.2.1) := hSw.2.2.c 1 (of_decide_eq_true rfl); have hc2 : wx.cell? ⟨w5.heap.size, 2, none⟩ = some (.int .i64 r5.1.2.2) := hSw.2.2.c 2 (of_decide_eq_true rfl); go_simp <;> with_reducible rfl)
  simp only [Act.put, List.setIfInBounds_toArray, List.set_cons_zero, List.set_cons_succ]
  refine call_at2 (i0 := 4) (i1 := 7) (by kernel_rfl) rfl rfl (fun K hK => ?_) (fun K hK => ?_)
  · go_simp
    refine (uAdd_any b r5.2 r3.1 r4.1 _ (f5.alloc _).drew).mono ?_
    rintro e w6 ⟨rfl, f6, k6⟩
    generalize e6 : uAddS r5.2 r3.1 r4.1 = r6 at f6 ⊢
    have E6 : Hid _ := e6
    clear e6
    have K6 : Kept b w w6 := Kept.trans (K5.al _).drew k6
    have B0_6 : Arr w.heap.size [.int .i64 p.1, .int .i64 p.2.1, .int .i64 p.2.2.1, .int .i64 p.2.2.2] w6 := (B0_5.alloc _).drew.kept k6 (by omega)
    have B1_6 : Arr (w.heap.size + 1) [.int .i64 q.1, .int .i64 q.2.1, .int .i64 q.2.2.1, .int .i64 q.2.2.2] w6 := (B1_5.alloc _).drew.kept k6 (by omega)
    have B2_6 : Arr (w.heap.size + 1 + 1) [.int .i64 0, .int .i64 0, .int .i64 0, .int .i64 0] w6 := (B2_5.alloc _).drew.kept k6 (by omega)
    have B3_6 : Arr w1.heap.size [.int .i64 p.1, .int .i64 p.2.1, .int .i64 p.2.2.1] w6 := (B3_5.alloc _).drew.kept k6 (by omega)
    have B4_6 : Arr w2.heap.size [.int .i64 q.1, .int .i64 q.2.1, .int .i64 q.2.2.1] w6 := (B4_5.alloc _).drew.kept k6 (by omega)
    have B5_6 : Arr w3.heap.size [.int .i64 r3.1.1, .int .i64 r3.1.2.1, .int .i64 r3.1.2.2] w6 := (B5_5.alloc _).drew.kept k6 (by omega)
    have B6_6 : Arr w4.heap.size [.int .i64 r4.1.1, .int .i64 r4.1.2.1, .int .i64 r4.1.2.2] w6 := (B6_5.alloc _).drew.kept k6 (by omega)
    have B7_6 : Arr w5.heap.size [.int .i64 r5.1.1, .int .i64 r5.1.2.1, .int .i64 r5.1.2.2] w6 := (Arr_at _ _ [.int .i64 r5.1.1, .int .i64 r5.1.2.1, .int .i64 r5.1.2.2] _ (by simp)).drew.kept k6 (by omega)
    have z6 := B7_6.lies
    clear hHeld
    refine hK.out _ _ ⟨B5_6, B6_6, B7_6⟩ (fun hHeld => ?_)
    clear hK K K5 f5 B0_5 B1_5 B2_5 B3_5 B4_5 B5_5 B6_5 k6
    refine call_at2 (i0 := 6) (i1 := 7) (by kernel_rfl) rfl rfl (fun K hK => ?_) (fun K hK => ?_)
    · go_simp
      refine (uAdd_any b r6.2 r6.1 r5.1 _ f6).mono ?_
      rintro e w7 ⟨rfl, f7, k7⟩
      generalize e7 : uAddS r6.2 r6.1 r5.1 = r7 at f7 ⊢
      have E7 : Hid _ := e7
      clear e7
      have K7 : Kept b w w7 := Kept.trans K6 k7
      have B0_7 : Arr w.heap.size [.int .i64 p.1, .int .i64 p.2.1, .int .i64 p.2.2.1, .int .i64 p.2.2.2] w7 := B0_6.kept k7 (by omega)
      have B1_7 : Arr (w.heap.size + 1) [.int .i64 q.1, .int .i64 q.2.1, .int .i64 q.2.2.1, .int .i64 q.2.2.2] w7 := B1_6.kept k7 (by omega)
      have B2_7 : Arr (w.heap.size + 1 + 1) [.int .i64 0, .int .i64 0, .int .i64 0, .int .i64 0] w7 := B2_6.kept k7 (by omega)
      have B3_7 : Arr w1.heap.size [.int .i64 p.1, .int .i64 p.2.1, .int .i64 p.2.2.1] w7 := B3_6.kept k7 (by omega)
      have B4_7 : Arr w2.heap.size [.int .i64 q.1, .int .i64 q.2.1, .int .i64 q.2.2.1] w7 := B4_6.kept k7 (by omega)
      have B5_7 : Arr w3.heap.size [.int .i64 r3.1.1, .int .i64 r3.1.2.1, .int .i64 r3.1.2.2] w7 := B5_6.kept k7 (by omega)
      have B6_7 : Arr w4.heap.size [.int .i64 r4.1.1, .int .i64 r4.1.2.1, .int .i64 r4.1.2.2] w7 := B6_6.kept k7 (by omega)
      have B7_7 : Arr w5.heap.size [.int .i64 r5.1.1, .int .i64 r5.1.2.1, .int .i64 r5.1.2.2] w7 := B7_6.kept k7 (by omega)
      have z7 := B7_7.lies
      clear hHeld
      refine hK.out _ _ ⟨B5_7, B6_7, B7_7⟩ (fun hHeld => ?_)
      clear hK K K6 f6 B0_6 B1_6 B2_6 B3_6 B4_6 B5_6 B6_6 B7_6 k7
      refine call_at (i := 7) (by kernel_rfl) rfl (fun K hK => ?_)
      go_simp
      clear hHeld
      refine hK.out _ _ ⟨(B5_7.alloc _), (B6_7.alloc _), (B7_7.alloc _)⟩ (fun hHeld => ?_)
      clear hK K
      refine call_at (i := 8) (by kernel_rfl) rfl (fun K hK => ?_)
      go_simp
      clear hHeld
      refine hK.out _ _ ⟨(B5_7.alloc _), (B6_7.alloc _), (B7_7.alloc _)⟩ (fun hHeld => ?_)
      clear hK K
      refine wpAnyH_done (by kernel_rfl) ?_ _
      clear hHeld
      exact cont1 _ _ _ _ _ _ _ _ _ _ _ _ _ _ _ _ _ _ _ _ _ _ _ _ _ _ _ _ _ _ w7.heap.size r6 r7 E6 E7 (K7.al _) (f7.alloc _) (B0_7.alloc _) (B1_7.alloc _) (B2_7.alloc _) (B3_7.alloc _) (B4_7.alloc _) (B5_7.alloc _) (B6_7.alloc _) (B7_7.alloc _) (Arr_at _ _ [.int .i64 r7.1.1, .int .i64 r7.1.2.1, .int .i64 r7.1.2.2] _ (by simp)) (by omega) (by omega) (by omega) (by omega) (by omega) (by omega) (by omega) (by omega) (by omega) (by omega)
    · go_simp
      clear hHeld
      refine hK.out _ _ ⟨(B5_6.alloc _), (B6_6.alloc _), (B7_6.alloc _)⟩ (fun hHeld => ?_)
      clear hK K
      refine call_at (i := 6) (by kernel_rfl) rfl (fun K hK => ?_)
      go_simp
      refine (uAdd_any b r6.2 r6.1 r5.1 _ (f6.alloc _)).mono ?_
      rintro e w7 ⟨rfl, f7, k7⟩
      generalize e7 : uAddS r6.2 r6.1 r5.1 = r7 at f7 ⊢
      have E7 : Hid _ := e7
      clear e7
      have K7 : Kept b w w7 := Kept.trans (K6.al _) k7
      have B0_7 : Arr w.heap.size [.int .i64 p.1, .int .i64 p.2.1, .int .i64 p.2.2.1, .int .i64 p.2.2.2] w7 := (B0_6.alloc _).kept k7 (by omega)
      have B1_7 : Arr (w.heap.size + 1) [.int .i64 q.1, .int .i64 q.2.1, .int .i64 q.2.2.1, .int .i64 q.2.2.2] w7 := (B1_6.alloc _).kept k7 (by omega)
      have B2_7 : Arr (w.heap.size + 1 + 1) [.int .i64 0, .int .i64 0, .int .i64 0, .int .i64 0] w7 := (B2_6.alloc _).kept k7 (by omega)
      have B3_7 : Arr w1.heap.size [.int .i64 p.1, .int .i64 p.2.1, .int .i64 p.2.2.1] w7 := (B3_6.alloc _).kept k7 (by omega)
      have B4_7 : Arr w2.heap.size [.int .i64 q.1, .int .i64 q.2.1, .int .i64 q.2.2.1] w7 := (B4_6.alloc _).kept k7 (by omega)
      have B5_7 : Arr w3.heap.size [.int .i64 r3.1.1, .int .i64 r3.1.2.1, .int .i64 r3.1.2.2] w7 := (B5_6.alloc _).kept k7 (by omega)
      have B6_7 : Arr w4.heap.size [.int .i64 r4.1.1, .int .i64 r4.1.2.1, .int .i64 r4.1.2.2] w7 := (B6_6.alloc _).kept k7 (by omega)
      have B7_7 : Arr w5.heap.size [.int .i64 r5.1.1, .int .i64 r5.1.2.1, .int .i64 r5.1.2.2] w7 := (B7_6.alloc _).kept k7 (by omega)
      have B8_7 : Arr w6.heap.size [.int .i64 0, .int .i64 0, .int .i64 0] w7 := (Arr_at _ _ [.int .i64 0, .int .i64 0, .int .i64 0] _ (by simp)).kept k7 (by omega)
      have z7 := B8_7.lies
      clear hHeld
      refine hK.out _ _ ⟨B5_7, B6_7, B7_7⟩ (fun hHeld => ?_)
      clear hK K K6 f6 B0_6 B1_6 B2_6 B3_6 B4_6 B5_6 B6_6 B7_6 k7
      refine call_at (i := 8) (by kernel_rfl) rfl (fun K hK => ?_)
      have c8_B8_0 : w7.cell? ⟨w6.heap.size, 0, none⟩ = some (.int .i64 0) := B8_7.c 0 (of_decide_eq_true rfl)
      have c8_B8_1 : w7.cell? ⟨w6.heap.size, 1, none⟩ = some (.int .i64 0) := B8_7.c 1 (of_decide_eq_true rfl)
      have c8_B8_2 : w7.cell? ⟨w6.heap.size, 2, none⟩ = some (.int .i64 0) := B8_7.c 2 (of_decide_eq_true rfl)
      have g8_B8_0 := B8_7.f 0 (of_decide_eq_true rfl)
      have g8_B8_1 := B8_7.f 1 (of_decide_eq_true rfl)
      have g8_B8_2 := B8_7.f 2 (of_decide_eq_true rfl)
      go_simp
      clear hHeld
      refine hK.out _ _ ⟨(((B5_7.new w6.heap.size 0 (by omega) (.int .i64 r7.1.1)).new w6.heap.size 1 (by omega) (.int .i64 r7.1.2.1)).new w6.heap.size 2 (by omega) (.int .i64 r7.1.2.2)), (((B6_7.new w6.heap.size 0 (by omega) (.int .i64 r7.1.1)).new w6.heap.size 1 (by omega) (.int .i64 r7.1.2.1)).new w6.heap.size 2 (by omega) (.int .i64 r7.1.2.2)), (((B7_7.new w6.heap.size 0 (by omega) (.int .i64 r7.1.1)).new w6.heap.size 1 (by omega) (.int .i64 r7.1.2.1)).new w6.heap.size 2 (by omega) (.int .i64 r7.1.2.2))⟩ (fun hHeld => ?_)
      clear hK K c8_B8_0 c8_B8_1 c8_B8_2 g8_B8_0 g8_B8_1 g8_B8_2
      refine wpAnyH_done (by kernel_rfl) ?_ _
      clear hHeld
      exact cont1 _ _ _ _ _ _ _ _ _ _ _ _ _ _ _ _ _ _ _ _ _ _ _ _ _ _ _ _ _ _ w6.heap.size r6 r7 E6 E7 (((K7.new _ _ (by omega) _).new _ _ (by omega) _).new _ _ (by omega) _) (((f7.new w6.heap.size 0 (by omega) (.int .i64 r7.1.1)).new w6.heap.size 1 (by omega) (.int .i64 r7.1.2.1)).new w6.heap.size 2 (by omega) (.int .i64 r7.1.2.2)) (((B0_7.new w6.heap.size 0 (by omega) (.int .i64 r7.1.1)).new w6.heap.size 1 (by omega) (.int .i64 r7.1.2.1)).new w6.heap.size 2 (by omega) (.int .i64 r7.1.2.2)) (((B1_7.new w6.heap.size 0 (by omega) (.int .i64 r7.1.1)).new w6.heap.size 1 (by omega) (.int .i64 r7.1.2.1)).new w6.heap.size 2 (by omega) (.int .i64 r7.1.2.2)) (((B2_7.new w6.heap.size 0 (by omega) (.int .i64 r7.1.1)).new w6.heap.size 1 (by omega) (.int .i64 r7.1.2.1)).new w6.heap.size 2 (by omega) (.int .i64 r7.1.2.2)) (((B3_7.new w6.heap.size 0 (by omega) (.int .i64 r7.1.1)).new w6.heap.size 1 (by omega) (.int .i64 r7.1.2.1)).new w6.heap.size 2 (by omega) (.int .i64 r7.1.2.2)) (((B4_7.new w6.heap.size 0 (by omega) (.int .i64 r7.1.1)).new w6.heap.size 1 (by omega) (.int .i64 r7.1.2.1)).new w6.heap.size 2 (by omega) (.int .i64 r7.1.2.2)) (((B5_7.new w6.heap.size 0 (by omega) (.int .i64 r7.1.1)).new w6.heap.size 1 (by omega) (.int .i64 r7.1.2.1)).new w6.heap.size 2 (by omega) (.int .i64 r7.1.2.2)) (((B6_7.new w6.heap.size 0 (by omega) (.int .i64 r7.1.1)).new w6.heap.size 1 (by omega) (.int .i64 r7.1.2.1)).new w6.heap.size 2 (by omega) (.int .i64 r7.1.2.2)) (((B7_7.new w6.heap.size 0 (by omega) (.int .i64 r7.1.1)).new w6.heap.size 1 (by omega) (.int .i64 r7.1.2.1)).new w6.heap.size 2 (by omega) (.int .i64 r7.1.2.2)) (((B8_7.put 0 (of_decide_eq_true rfl) (.int .i64 r7.1.1) [.int .i64 r7.1.1, .int .i64 0, .int .i64 0] rfl).put 1 (of_decide_eq_true rfl) (.int .i64 r7.1.2.1) [.int .i64 r7.1.1, .int .i64 r7.1.2.1, .int .i64 0] rfl).put 2 (of_decide_eq_true rfl) (.int .i64 r7.1.2.2) [.int .i64 r7.1.1, .int .i64 r7.1.2.1, .int .i64 r7.1.2.2] rfl) (by omega) (by omega) (by omega) (by omega) (by omega) (by omega) (by omega) (by omega) (by omega) (by omega)
  · go_simp
    clear hHeld
    refine hK.out _ _ ⟨((B5_5.alloc _).drew.alloc _), ((B6_5.alloc _).drew.alloc _), ((Arr_at _ _ [.int .i64 r5.1.1, .int .i64 r5.1.2.1, .int .i64 r5.1.2.2] _ (by simp)).drew.alloc _)⟩ (fun hHeld => ?_)
    clear hK K
    refine call_at (i := 4) (by kernel_rfl) rfl (fun K hK => ?_)
    go_simp
    refine (uAdd_any b r5.2 r3.1 r4.1 _ ((f5.alloc _).drew.alloc _)).mono ?_
    rintro e w6 ⟨rfl, f6, k6⟩
    generalize e6 : uAddS r5.2 r3.1 r4.1 = r6 at f6 ⊢
    have E6 : Hid _ := e6
    clear e6
    have K6 : Kept b w w6 := Kept.trans ((K5.al _).drew.al _) k6
    have B0_6 : Arr w.heap.size [.int .i64 p.1, .int .i64 p.2.1, .int .i64 p.2.2.1, .int .i64 p.2.2.2] w6 := ((B0_5.alloc _).drew.alloc _).kept k6 (by omega)
    have B1_6 : Arr (w.heap.size + 1) [.int .i64 q.1, .int .i64 q.2.1, .int .i64 q.2.2.1, .int .i64 q.2.2.2] w6 := ((B1_5.alloc _).drew.alloc _).kept k6 (by omega)
    have B2_6 : Arr (w.heap.size + 1 + 1) [.int .i64 0, .int .i64 0, .int .i64 0, .int .i64 0] w6 := ((B2_5.alloc _).drew.alloc _).kept k6 (by omega)
    have B3_6 : Arr w1.heap.size [.int .i64 p.1, .int .i64 p.2.1, .int .i64 p.2.2.1] w6 := ((B3_5.alloc _).drew.alloc _).kept k6 (by omega)
    have B4_6 : Arr w2.heap.size [.int .i64 q.1, .int .i64 q.2.1, .int .i64 q.2.2.1] w6 := ((B4_5.alloc _).drew.alloc _).kept k6 (by omega)
    have B5_6 : Arr w3.heap.size [.int .i64 r3.1.1, .int .i64 r3.1.2.1, .int .i64 r3.1.2.2] w6 := ((B5_5.alloc _).drew.alloc _).kept k6 (by omega)
    have B6_6 : Arr w4.heap.size [.int .i64 r4.1.1, .int .i64 r4.1.2.1, .int .i64 r4.1.2.2] w6 := ((B6_5.alloc _).drew.alloc _).kept k6 (by omega)
    have B7_6 : Arr w5.heap.size [.int .i64 r5.1.1, .int .i64 r5.1.2.1, .int .i64 r5.1.2.2] w6 := ((Arr_at _ _ [.int .i64 r5.1.1, .int .i64 r5.1.2.1, .int .i64 r5.1.2.2] _ (by simp)).drew.alloc _).kept k6 (by omega)
    have B8_6 : Arr (w5.heap.size + 1) [.int .i64 0, .int .i64 0, .int .i64 0] w6 := (Arr_at _ _ [.int .i64 0, .int .i64 0, .int .i64 0] _ (by simp)).kept k6 (by omega)
    have z6 := B8_6.lies
    clear hHeld
    refine hK.out _ _ ⟨B5_6, B6_6, B7_6⟩ (fun hHeld => ?_)
    clear hK K K5 f5 B0_5 B1_5 B2_5 B3_5 B4_5 B5_5 B6_5 k6
    refine call_at (i := 6) (by kernel_rfl) rfl (fun K hK => ?_)
    go_simp
    refine (uAdd_any b r6.2 r6.1 r5.1 _ f6).mono ?_
    rintro e w7 ⟨rfl, f7, k7⟩
    generalize e7 : uAddS r6.2 r6.1 r5.1 = r7 at f7 ⊢
    have E7 : Hid _ := e7
    clear e7
    have K7 : Kept b w w7 := Kept.trans K6 k7
    have B0_7 : Arr w.heap.size [.int .i64 p.1, .int .i64 p.2.1, .int .i64 p.2.2.1, .int .i64 p.2.2.2] w7 := B0_6.kept k7 (by omega)
    have B1_7 : Arr (w.heap.size + 1) [.int .i64 q.1, .int .i64 q.2.1, .int .i64 q.2.2.1, .int .i64 q.2.2.2] w7 := B1_6.kept k7 (by omega)
    have B2_7 : Arr (w.heap.size + 1 + 1) [.int .i64 0, .int .i64 0, .int .i64 0, .int .i64 0] w7 := B2_6.kept k7 (by omega)
    have B3_7 : Arr w1.heap.size [.int .i64 p.1, .int .i64 p.2.1, .int .i64 p.2.2.1] w7 := B3_6.kept k7 (by omega)
    have B4_7 : Arr w2.heap.size [.int .i64 q.1, .int .i64 q.2.1, .int .i64 q.2.2.1] w7 := B4_6.kept k7 (by omega)
    have B5_7 : Arr w3.heap.size [.int .i64 r3.1.1, .int .i64 r3.1.2.1, .int .i64 r3.1.2.2] w7 := B5_6.kept k7 (by omega)
    have B6_7 : Arr w4.heap.size [.int .i64 r4.1.1, .int .i64 r4.1.2.1, .int .i64 r4.1.2.2] w7 := B6_6.kept k7 (by omega)
    have B7_7 : Arr w5.heap.size [.int .i64 r5.1.1, .int .i64 r5.1.2.1, .int .i64 r5.1.2.2] w7 := B7_6.kept k7 (by omega)
    have B8_7 : Arr (w5.heap.size + 1) [.int .i64 0, .int .i64 0, .int .i64 0] w7 := B8_6.kept k7 (by omega)
    have z7 := B8_7.lies
    clear hHeld
    refine hK.out _ _ ⟨B5_7, B6_7, B7_7⟩ (fun hHeld => ?_)
    clear hK K K6 f6 B0_6 B1_6 B2_6 B3_6 B4_6 B5_6 B6_6 B7_6 B8_6 k7
    refine call_at (i := 8) (by kernel_rfl) rfl (fun K hK => ?_)
    have c8_B8_0 : w7.cell? ⟨w5.heap.size + 1, 0, none⟩ = some (.int .i64 0) := B8_7.c 0 (of_decide_eq_true rfl)
    have c8_B8_1 : w7.cell? ⟨w5.heap.size + 1, 1, none⟩ = some (.int .i64 0) := B8_7.c 1 (of_decide_eq_true rfl)
    have c8_B8_2 : w7.cell? ⟨w5.heap.size + 1, 2, none⟩ = some (.int .i64 0) := B8_7.c 2 (of_decide_eq_true rfl)
    have g8_B8_0 := B8_7.f 0 (of_decide_eq_true rfl)
    have g8_B8_1 := B8_7.f 1 (of_decide_eq_true rfl)
    have g8_B8_2 := B8_7.f 2 (of_decide_eq_true rfl)
    go_simp
    clear hHeld
    refine hK.out _ _ ⟨(((B5_7.new (w5.heap.size + 1) 0 (by omega) (.int .i64 r7.1.1)).new (w5.heap.size + 1) 1 (by omega) (.int .i64 r7.1.2.1)).new (w5.heap.size + 1) 2 (by omega) (.int .i64 r7.1.2.2)), (((B6_7.new (w5.heap.size + 1) 0 (by omega) (.int .i64 r7.1.1)).new (w5.heap.size + 1) 1 (by omega) (.int .i64 r7.1.2.1)).new (w5.heap.size + 1) 2 (by omega) (.int .i64 r7.1.2.2)), (((B7_7.new (w5.heap.size + 1) 0 (by omega) (.int .i64 r7.1.1)).new (w5.heap.size + 1) 1 (by omega) (.int .i64 r7.1.2.1)).new (w5.heap.size + 1) 2 (by omega) (.int .i64 r7.1.2.2))⟩ (fun hHeld => ?_)
    clear hK K c8_B8_0 c8_B8_1 c8_B8_2 g8_B8_0 g8_B8_1 g8_B8_2
    refine wpAnyH_done (by kernel_rfl) ?_ _
    clear hHeld
    exact cont1 _ _ _ _ _ _ _ _ _ _ _ _ _ _ _ _ _ _ _ _ _ _ _ _ _ _ _ _ _ _ (w5.heap.size + 1) r6 r7 E6 E7 (((K7.new _ _ (by omega) _).new _ _ (by omega) _).new _ _ (by omega) _) (((f7.new (w5.heap.size + 1) 0 (by omega) (.int .i64 r7.1.1)).new (w5.heap.size + 1) 1 (by omega) (.int .i64 r7.1.2.1)).new (w5.heap.size + 1) 2 (by omega) (.int .i64 r7.1.2.2)) (((B0_7.new (w5.heap.size + 1) 0 (by omega) (.int .i64 r7.1.1)).new (w5.heap.size + 1) 1 (by omega) (.int .i64 r7.1.2.1)).new (w5.heap.size + 1) 2 (by omega) (.int .i64 r7.1.2.2)) (((B1_7.new (w5.heap.size + 1) 0 (by omega) (.int .i64 r7.1.1)).new (w5.heap.size + 1) 1 (by omega) (.int .i64 r7.1.2.1)).new (w5.heap.size + 1) 2 (by omega) (.int .i64 r7.1.2.2)) (((B2_7.new (w5.heap.size + 1) 0 (by omega) (.int .i64 r7.1.1)).new (w5.heap.size + 1) 1 (by omega) (.int .i64 r7.1.2.1)).new (w5.heap.size + 1) 2 (by omega) (.int .i64 r7.1.2.2)) (((B3_7.new (w5.heap.size + 1) 0 (by omega) (.int .i64 r7.1.1)).new (w5.heap.size + 1) 1 (by omega) (.int .i64 r7.1.2.1)).new (w5.heap.size + 1) 2 (by omega) (.int .i64 r7.1.2.2)) (((B4_7.new (w5.heap.size + 1) 0 (by omega) (.int .i64 r7.1.1)).new (w5.heap.size + 1) 1 (by omega) (.int .i64 r7.1.2.1)).new (w5.heap.size + 1) 2 (by omega) (.int .i64 r7.1.2.2)) (((B5_7.new (w5.heap.size + 1) 0 (by omega) (.int .i64 r7.1.1)).new (w5.heap.size + 1) 1 (by omega) (.int .i64 r7.1.2.1)).new (w5.heap.size + 1) 2 (by omega) (.int .i64 r7.1.2.2)) (((B6_7.new (w5.heap.size + 1) 0 (by omega) (.int .i64 r7.1.1)).new (w5.heap.size + 1) 1 (by omega) (.int .i64 r7.1.2.1)).new (w5.heap.size + 1) 2 (by omega) (.int .i64 r7.1.2.2)) (((B7_7.new (w5.heap.size + 1) 0 (by omega) (.int .i64 r7.1.1)).new (w5.heap.size + 1) 1 (by omega) (.int .i64 r7.1.2.1)).new (w5.heap.size + 1) 2 (by omega) (.int .i64 r7.1.2.2)) (((B8_7.put 0 (of_decide_eq_true rfl) (.int .i64 r7.1.1) [.int .i64 r7.1.1, .int .i64 0, .int .i64 0] rfl).put 1 (of_decide_eq_true rfl) (.int .i64 r7.1.2.1) [.int .i64 r7.1.1, .int .i64 r7.1.2.1, .int .i64 0] rfl).put 2 (of_decide_eq_true rfl) (.int .i64 r7.1.2.2) [.int .i64 r7.1.1, .int .i64 r7.1.2.1, .int .i64 r7.1.2.2] rfl) (by omega) (by omega) (by omega) (by omega) (by omega) (by omega) (by omega) (by omega) (by omega) (by omega)
end Go.Proofs.Yteooceapkkdcpab
