/-
  Walks of package quat, for the seat Ytkeijfbpkdelpaa. (Made by mkquat.py.)
-/
import Derived.Test.YtkeijfbpkdelpaaQBase
import Derived.Test.YtkeijfbpkdelpaaVCode
import Derived.Handy
import Derived.Deep.RegionHeld3
namespace Go.Proofs.Ytkeijfbpkdelpaa
open Go.RowKit

set_option maxRecDepth 100000 in
set_option maxHeartbeats 2000000 in
theorem qMul_any (b : Nat) (bad : Bool) (p : V4) (q : V4) (w : World) (hw : Fl b bad w) :
    Calls Try.prog 18 #[.pointer (some ⟨b, 0, none⟩), .agg #[.int .i64 p.1, .int .i64 p.2.1, .int .i64 p.2.2.1, .int .i64 p.2.2.2], .agg #[.int .i64 q.1, .int .i64 q.2.1, .int .i64 q.2.2.1, .int .i64 q.2.2.2]] w fun e w' => e = .returned (.agg #[.int .i64 ((qMulS bad p q).1.1), .int .i64 ((qMulS bad p q).1.2.1), .int .i64 ((qMulS bad p q).1.2.2.1), .int .i64 ((qMulS bad p q).1.2.2.2)]) ∧ Fl b (qMulS bad p q).2 w' ∧ Kept b w w' := by
  have hl := hw.lies
  go_enter Try.func18, Try.ntmps18
  go_wp2_with fail
  refine (parted_any p _).mono ?_
  rintro e w1 ⟨rfl, k1⟩
  have K1 : Kept b w w1 := Kept.trans ((((Kept.refl b w).al _).al _).al _) (Kept.of_below k1)
  have BF_1 : Fl b bad w1 := (((hw.alloc _).alloc _).alloc _).below k1
  have B0_1 : Arr w.heap.size [.int .i64 p.1, .int .i64 p.2.1, .int .i64 p.2.2.1, .int .i64 p.2.2.2] w1 := (((Arr_at _ _ [.int .i64 p.1, .int .i64 p.2.1, .int .i64 p.2.2.1, .int .i64 p.2.2.2] _ (by simp)).alloc _).alloc _).below k1
  have B1_1 : Arr (w.heap.size + 1) [.int .i64 q.1, .int .i64 q.2.1, .int .i64 q.2.2.1, .int .i64 q.2.2.2] w1 := ((Arr_at _ _ [.int .i64 q.1, .int .i64 q.2.1, .int .i64 q.2.2.1, .int .i64 q.2.2.2] _ (by simp)).alloc _).below k1
  have B2_1 : Arr (w.heap.size + 1 + 1) [.int .i64 0, .int .i64 0, .int .i64 0, .int .i64 0] w1 := (Arr_at _ _ [.int .i64 0, .int .i64 0, .int .i64 0, .int .i64 0] _ (by simp)).below k1
  have z1 := B2_1.lies
  clear k1
  have c2_B1_0 : w1.cell? ⟨w.heap.size + 1, 0, none⟩ = some (.int .i64 q.1) := B1_1.c 0 (of_decide_eq_true rfl)
  have c2_B1_1 : w1.cell? ⟨w.heap.size + 1, 1, none⟩ = some (.int .i64 q.2.1) := B1_1.c 1 (of_decide_eq_true rfl)
  have c2_B1_2 : w1.cell? ⟨w.heap.size + 1, 2, none⟩ = some (.int .i64 q.2.2.1) := B1_1.c 2 (of_decide_eq_true rfl)
  have c2_B1_3 : w1.cell? ⟨w.heap.size + 1, 3, none⟩ = some (.int .i64 q.2.2.2) := B1_1.c 3 (of_decide_eq_true rfl)
  have l2_B1 := B1_1.lies
  go_wp2_with fail
  refine (parted_any q _).mono ?_
  rintro e w2 ⟨rfl, k2⟩
  have K2 : Kept b w w2 := Kept.trans (K1.al _) (Kept.of_below k2)
  have BF_2 : Fl b bad w2 := (BF_1.alloc _).below k2
  have B0_2 : Arr w.heap.size [.int .i64 p.1, .int .i64 p.2.1, .int .i64 p.2.2.1, .int .i64 p.2.2.2] w2 := (B0_1.alloc _).below k2
  have B1_2 : Arr (w.heap.size + 1) [.int .i64 q.1, .int .i64 q.2.1, .int .i64 q.2.2.1, .int .i64 q.2.2.2] w2 := (B1_1.alloc _).below k2
  have B2_2 : Arr (w.heap.size + 1 + 1) [.int .i64 0, .int .i64 0, .int .i64 0, .int .i64 0] w2 := (B2_1.alloc _).below k2
  have B3_2 : Arr w1.heap.size [.int .i64 p.1, .int .i64 p.2.1, .int .i64 p.2.2.1] w2 := (Arr_at _ _ [.int .i64 p.1, .int .i64 p.2.1, .int .i64 p.2.2.1] _ (by simp)).below k2
  have z2 := B3_2.lies
  clear c2_B1_0 c2_B1_1 c2_B1_2 c2_B1_3 l2_B1 K1 BF_1 B0_1 B1_1 B2_1 k2
  go_wp2_with fail
  rename_i K0 aK0
  have cont1 : ∀ (W1 : World) (t1_13 t1_14 t1_15 t1_16 t1_17 t1_18 t1_19 t1_20 t1_21 t1_22 t1_23 t1_24 t1_25 t1_26 t1_27 t1_28 t1_29 t1_30 t1_31 t1_32 t1_33 t1_34 t1_35 t1_36 t1_37 t1_38 : Value) (x1_0 : Nat) (r3 : _) (r4 : _) (r5 : _) (r6 : _) (r7 : _) , Hid (vScaleS bad (p.1, p.2.1, p.2.2.1) q.2.2.2 = r3) → Hid (vScaleS r3.2 (q.1, q.2.1, q.2.2.1) p.2.2.2 = r4) → Hid (vAddS r4.2 r3.1 r4.1 = r5) → Hid (vCrossS r5.2 (q.1, q.2.1, q.2.2.1) (p.1, p.2.1, p.2.2.1) = r6) → Hid (vAddS r6.2 r5.1 r6.1 = r7) → Kept b w W1 → Fl b r7.2 W1 → Arr w.heap.size [.int .i64 p.1, .int .i64 p.2.1, .int .i64 p.2.2.1, .int .i64 p.2.2.2] W1 → Arr (w.heap.size + 1) [.int .i64 q.1, .int .i64 q.2.1, .int .i64 q.2.2.1, .int .i64 q.2.2.2] W1 → Arr (w.heap.size + 1 + 1) [.int .i64 0, .int .i64 0, .int .i64 0, .int .i64 0] W1 → Arr w1.heap.size [.int .i64 p.1, .int .i64 p.2.1, .int .i64 p.2.2.1] W1 → Arr w2.heap.size [.int .i64 q.1, .int .i64 q.2.1, .int .i64 q.2.2.1] W1 → Arr x1_0 [.int .i64 r7.1.1, .int .i64 r7.1.2.1, .int .i64 r7.1.2.2] W1 → w.heap.size ≤ x1_0 → b < x1_0 → w.heap.size < x1_0 → w.heap.size + 1 < x1_0 → w.heap.size + 1 + 1 < x1_0 → w1.heap.size < x1_0 → w2.heap.size < x1_0 → K0 { tmps := #[.pointer (some ⟨b, 0, none⟩), .agg #[.int .i64 p.1, .int .i64 p.2.1, .int .i64 p.2.2.1, .int .i64 p.2.2.2], .agg #[.int .i64 q.1, .int .i64 q.2.1, .int .i64 q.2.2.1, .int .i64 q.2.2.2], undef, .pointer (some ⟨w.heap.size, 0, none⟩), .pointer (some ⟨w.heap.size + 1, 0, none⟩), .pointer (some ⟨w.heap.size + 1 + 1, 0, none⟩), .pointer (some ⟨w1.heap.size, 0, none⟩), .int .i64 p.2.2.2, .pointer (some ⟨w2.heap.size, 0, none⟩), .int .i64 q.2.2.2, .pointer (some ⟨x1_0, 0, none⟩), undef, t1_13, t1_14, t1_15, t1_16, t1_17, t1_18, t1_19, t1_20, t1_21, t1_22, t1_23, t1_24, t1_25, t1_26, t1_27, t1_28, t1_29, t1_30, t1_31, t1_32, t1_33, t1_34, t1_35, t1_36, t1_37, t1_38, undef, undef, undef, undef, undef, undef, undef, undef, undef, undef, undef, undef, undef, undef, undef], defers := [] } W1 := by
    intro W1 t1_13 t1_14 t1_15 t1_16 t1_17 t1_18 t1_19 t1_20 t1_21 t1_22 t1_23 t1_24 t1_25 t1_26 t1_27 t1_28 t1_29 t1_30 t1_31 t1_32 t1_33 t1_34 t1_35 t1_36 t1_37 t1_38 x1_0 r3 r4 r5 r6 r7 E3 E4 E5 E6 E7 KC1 BF_c1 B0_c1 B1_c1 B2_c1 B3_c1 B4_c1 B5_c1 s1_0 s1_1 s1_2 s1_3 s1_4 s1_5 s1_6
    apply aK0
    go_wp2_with fail
    refine wp_region_held_drew (S := fun w' => Arr w1.heap.size [.int .i64 p.1, .int .i64 p.2.1, .int .i64 p.2.2.1] w' ∧ Arr w2.heap.size [.int .i64 q.1, .int .i64 q.2.1, .int .i64 q.2.2.1] w') (by kernel_rfl) ⟨B3_c1.drew, B4_c1.drew⟩ (fun hHeld => ?_)
    refine take_at (i := 0) (v := ?v29) rfl (by kernel_rfl) (by kernel_rfl) (by kernel_rfl) (fun _ _ _ h => h) (Or.inl ⟨by rfl, ?y29⟩) hHeld ?t29
    case y29 => (intro wx hSw; go_simp <;> with_reducible rfl)
    simp only [Act.put, List.setIfInBounds_toArray, List.set_cons_zero, List.set_cons_succ]
    refine take_at (i := 1) (v := ?v30) rfl (by kernel_rfl) (by kernel_rfl) (by kernel_rfl) (fun _ _ _ h => h) (Or.inl ⟨by rfl, ?y30⟩) hHeld ?t30
    case y30 => (intro wx hSw; go_simp <;> with_reducible rfl)
    simp only [Act.put, List.setIfInBounds_toArray, List.set_cons_zero, List.set_cons_succ]
    refine take_at (i := 2) (v := ?v31) rfl (by kernel_rfl) (by kernel_rfl) (by kernel_rfl) (fun _ _ _ h => h) (Or.inl ⟨by rfl, ?y31⟩) hHeld ?t31
    case y31 => (intro wx hSw; go_simp <;> with_reducible rfl)
    simp only [Act.put, List.setIfInBounds_toArray, List.set_cons_zero, List.set_cons_succ]
    refine take_at (i := 3) (v := ?v32) rfl (by kernel_rfl) (by kernel_rfl) (by kernel_rfl) (fun _ _ _ h => h) (Or.inl ⟨by rfl, ?y32⟩) hHeld ?t32
    case y32 => (intro wx hSw; go_simp <;> with_reducible rfl)
    simp only [Act.put, List.setIfInBounds_toArray, List.set_cons_zero, List.set_cons_succ]
    refine take_at (i := 5) (v := ?v33) rfl (by kernel_rfl) (by kernel_rfl) (by kernel_rfl) (fun _ _ _ h => h) (Or.inl ⟨by rfl, ?y33⟩) hHeld ?t33
    case y33 => (intro wx hSw; go_simp <;> with_reducible rfl)
    simp only [Act.put, List.setIfInBounds_toArray, List.set_cons_zero, List.set_cons_succ]
    refine take_at (i := 6) (v := ?v34) rfl (by kernel_rfl) (by kernel_rfl) (by kernel_rfl) (fun _ _ _ h => h) (Or.inl ⟨by rfl, ?y34⟩) hHeld ?t34
    case y34 => (intro wx hSw; have hc0 : wx.cell? ⟨w1.heap.size, 0, none⟩ = some (.int .i64 p.1) := hSw.1.c 0 (of_decide_eq_true rfl); have hc1 : wx.cell? ⟨w1.heap.size, 1, none⟩ = some (.int .i64 p.2.1) := hSw.1.c 1 (of_decide_eq_true rfl); have hc2 : wx.cell? ⟨w1.heap.size, 2, none⟩ = some (.int .i64 p.2.2.1) := hSw.1.c 2 (of_decide_eq_true rfl); go_simp <;> with_reducible rfl)
    simp only [Act.put, List.setIfInBounds_toArray, List.set_cons_zero, List.set_cons_succ]
    refine take_at (i := 7) (v := ?v35) rfl (by kernel_rfl) (by kernel_rfl) (by kernel_rfl) (fun _ _ _ h => h) (Or.inl ⟨by rfl, ?y35⟩) hHeld ?t35
    case y35 => (intro wx hSw; have hc0 : wx.cell? ⟨w2.heap.size, 0, none⟩ = some (.int .i64 q.1) := hSw.2.c 0 (of_decide_eq_true rfl); have hc1 : wx.cell? ⟨w2.heap.size, 1, none⟩ = some (.int .i64 q.2.1) := hSw.2.c 1 (of_decide_eq_true rfl); have hc2 : wx.cell? ⟨w2.heap.size, 2, none⟩ = some (.int .i64 q.2.2.1) := hSw.2.c 2 (of_decide_eq_true rfl); go_simp <;> with_reducible rfl)
    simp only [Act.put, List.setIfInBounds_toArray, List.set_cons_zero, List.set_cons_succ]
    refine call_at (i := 4) (by kernel_rfl) rfl (fun K hK => ?_)
    go_simp
    refine (Mul_any b r7.2 p.2.2.2 q.2.2.2 _ BF_c1.drew).mono ?_
    rintro e w8 ⟨rfl, f8, k8⟩
    generalize e8 : mulS r7.2 p.2.2.2 q.2.2.2 = r8 at f8 ⊢
    have E8 : Hid _ := e8
    clear e8
    have K8 : Kept b w w8 := Kept.trans KC1.drew k8
    have B0_8 : Arr w.heap.size [.int .i64 p.1, .int .i64 p.2.1, .int .i64 p.2.2.1, .int .i64 p.2.2.2] w8 := B0_c1.drew.kept k8 (by omega)
    have B1_8 : Arr (w.heap.size + 1) [.int .i64 q.1, .int .i64 q.2.1, .int .i64 q.2.2.1, .int .i64 q.2.2.2] w8 := B1_c1.drew.kept k8 (by omega)
    have B2_8 : Arr (w.heap.size + 1 + 1) [.int .i64 0, .int .i64 0, .int .i64 0, .int .i64 0] w8 := B2_c1.drew.kept k8 (by omega)
    have B3_8 : Arr w1.heap.size [.int .i64 p.1, .int .i64 p.2.1, .int .i64 p.2.2.1] w8 := B3_c1.drew.kept k8 (by omega)
    have B4_8 : Arr w2.heap.size [.int .i64 q.1, .int .i64 q.2.1, .int .i64 q.2.2.1] w8 := B4_c1.drew.kept k8 (by omega)
    have B5_8 : Arr x1_0 [.int .i64 r7.1.1, .int .i64 r7.1.2.1, .int .i64 r7.1.2.2] w8 := B5_c1.drew.kept k8 (by omega)
    have z8 := B5_8.lies
    clear hHeld
    refine hK.out _ _ ⟨B3_8, B4_8⟩ (fun hHeld => ?_)
    clear hK K BF_c1 B0_c1 B1_c1 B2_c1 B3_c1 B4_c1 B5_c1 k8
    refine call_at (i := 8) (by kernel_rfl) rfl (fun K hK => ?_)
    go_simp
    refine (vDot_any b r8.2 (p.1, p.2.1, p.2.2.1) (q.1, q.2.1, q.2.2.1) _ f8).mono ?_
    rintro e w9 ⟨rfl, f9, k9⟩
    generalize e9 : vDotS r8.2 (p.1, p.2.1, p.2.2.1) (q.1, q.2.1, q.2.2.1) = r9 at f9 ⊢
    have E9 : Hid _ := e9
    clear e9
    have K9 : Kept b w w9 := Kept.trans K8 k9
    have B0_9 : Arr w.heap.size [.int .i64 p.1, .int .i64 p.2.1, .int .i64 p.2.2.1, .int .i64 p.2.2.2] w9 := B0_8.kept k9 (by omega)
    have B1_9 : Arr (w.heap.size + 1) [.int .i64 q.1, .int .i64 q.2.1, .int .i64 q.2.2.1, .int .i64 q.2.2.2] w9 := B1_8.kept k9 (by omega)
    have B2_9 : Arr (w.heap.size + 1 + 1) [.int .i64 0, .int .i64 0, .int .i64 0, .int .i64 0] w9 := B2_8.kept k9 (by omega)
    have B3_9 : Arr w1.heap.size [.int .i64 p.1, .int .i64 p.2.1, .int .i64 p.2.2.1] w9 := B3_8.kept k9 (by omega)
    have B4_9 : Arr w2.heap.size [.int .i64 q.1, .int .i64 q.2.1, .int .i64 q.2.2.1] w9 := B4_8.kept k9 (by omega)
    have B5_9 : Arr x1_0 [.int .i64 r7.1.1, .int .i64 r7.1.2.1, .int .i64 r7.1.2.2] w9 := B5_8.kept k9 (by omega)
    have z9 := B5_9.lies
    clear hHeld
    refine hK.out _ _ ⟨B3_9, B4_9⟩ (fun hHeld => ?_)
    clear hK K K8 f8 B0_8 B1_8 B2_8 B3_8 B4_8 B5_8 k9
    refine call_at (i := 9) (by kernel_rfl) rfl (fun K hK => ?_)
    go_simp
    refine (Sub_any b r9.2 r8.1 r9.1 _ f9).mono ?_
    rintro e w10 ⟨rfl, f10, k10⟩
    generalize e10 : subS r9.2 r8.1 r9.1 = r10 at f10 ⊢
    have E10 : Hid _ := e10
    clear e10
    have K10 : Kept b w w10 := Kept.trans K9 k10
    have B0_10 : Arr w.heap.size [.int .i64 p.1, .int .i64 p.2.1, .int .i64 p.2.2.1, .int .i64 p.2.2.2] w10 := B0_9.kept k10 (by omega)
    have B1_10 : Arr (w.heap.size + 1) [.int .i64 q.1, .int .i64 q.2.1, .int .i64 q.2.2.1, .int .i64 q.2.2.2] w10 := B1_9.kept k10 (by omega)
    have B2_10 : Arr (w.heap.size + 1 + 1) [.int .i64 0, .int .i64 0, .int .i64 0, .int .i64 0] w10 := B2_9.kept k10 (by omega)
    have B3_10 : Arr w1.heap.size [.int .i64 p.1, .int .i64 p.2.1, .int .i64 p.2.2.1] w10 := B3_9.kept k10 (by omega)
    have B4_10 : Arr w2.heap.size [.int .i64 q.1, .int .i64 q.2.1, .int .i64 q.2.2.1] w10 := B4_9.kept k10 (by omega)
    have B5_10 : Arr x1_0 [.int .i64 r7.1.1, .int .i64 r7.1.2.1, .int .i64 r7.1.2.2] w10 := B5_9.kept k10 (by omega)
    have z10 := B5_10.lies
    clear hHeld
    refine hK.out _ _ ⟨B3_10, B4_10⟩ (fun hHeld => ?_)
    clear hK K K9 f9 B0_9 B1_9 B2_9 B3_9 B4_9 B5_9 k10
    refine take_at (i := 10) (v := ?v36) rfl (by kernel_rfl) (by kernel_rfl) (by kernel_rfl) (fun _ _ _ h => h) (Or.inl ⟨by rfl, ?y36⟩) hHeld ?t36
    case y36 => (intro wx hSw; go_simp <;> with_reducible rfl)
    simp only [Act.put, List.setIfInBounds_toArray, List.set_cons_zero, List.set_cons_succ]
    refine wpAnyH_done (by kernel_rfl) ?_ _
    clear hHeld
    have c5_B5_0 : w10.cell? ⟨x1_0, 0, none⟩ = some (.int .i64 r7.1.1) := B5_10.c 0 (of_decide_eq_true rfl)
    have c5_B5_1 : w10.cell? ⟨x1_0, 1, none⟩ = some (.int .i64 r7.1.2.1) := B5_10.c 1 (of_decide_eq_true rfl)
    have c5_B5_2 : w10.cell? ⟨x1_0, 2, none⟩ = some (.int .i64 r7.1.2.2) := B5_10.c 2 (of_decide_eq_true rfl)
    go_wp2_with fail
    refine (joined_any r7.1 r10.1 _).mono ?_
    rintro e w11 ⟨rfl, k11⟩
    have K11 : Kept b w w11 := Kept.trans K10 (Kept.of_below k11)
    have BF_11 : Fl b r10.2 w11 := f10.below k11
    have B0_11 : Arr w.heap.size [.int .i64 p.1, .int .i64 p.2.1, .int .i64 p.2.2.1, .int .i64 p.2.2.2] w11 := B0_10.below k11
    have B1_11 : Arr (w.heap.size + 1) [.int .i64 q.1, .int .i64 q.2.1, .int .i64 q.2.2.1, .int .i64 q.2.2.2] w11 := B1_10.below k11
    have B2_11 : Arr (w.heap.size + 1 + 1) [.int .i64 0, .int .i64 0, .int .i64 0, .int .i64 0] w11 := B2_10.below k11
    have B3_11 : Arr w1.heap.size [.int .i64 p.1, .int .i64 p.2.1, .int .i64 p.2.2.1] w11 := B3_10.below k11
    have B4_11 : Arr w2.heap.size [.int .i64 q.1, .int .i64 q.2.1, .int .i64 q.2.2.1] w11 := B4_10.below k11
    have B5_11 : Arr x1_0 [.int .i64 r7.1.1, .int .i64 r7.1.2.1, .int .i64 r7.1.2.2] w11 := B5_10.below k11
    have z11 := B5_11.lies
    clear c5_B5_0 c5_B5_1 c5_B5_2 K10 f10 B0_10 B1_10 B2_10 B3_10 B4_10 B5_10 k11
    go_wp2_with fail
    refine (sound4_any b r10.2 (r7.1.1, r7.1.2.1, r7.1.2.2, r10.1) _ BF_11).mono ?_
    rintro e w12 ⟨rfl, f12, k12⟩
    generalize e12 : sound4S r10.2 (r7.1.1, r7.1.2.1, r7.1.2.2, r10.1) = r12 at f12 ⊢
    have E12 : Hid _ := e12
    clear e12
    have K12 : Kept b w w12 := Kept.trans K11 k12
    have B0_12 : Arr w.heap.size [.int .i64 p.1, .int .i64 p.2.1, .int .i64 p.2.2.1, .int .i64 p.2.2.2] w12 := B0_11.kept k12 (by omega)
    have B1_12 : Arr (w.heap.size + 1) [.int .i64 q.1, .int .i64 q.2.1, .int .i64 q.2.2.1, .int .i64 q.2.2.2] w12 := B1_11.kept k12 (by omega)
    have B2_12 : Arr (w.heap.size + 1 + 1) [.int .i64 0, .int .i64 0, .int .i64 0, .int .i64 0] w12 := B2_11.kept k12 (by omega)
    have B3_12 : Arr w1.heap.size [.int .i64 p.1, .int .i64 p.2.1, .int .i64 p.2.2.1] w12 := B3_11.kept k12 (by omega)
    have B4_12 : Arr w2.heap.size [.int .i64 q.1, .int .i64 q.2.1, .int .i64 q.2.2.1] w12 := B4_11.kept k12 (by omega)
    have B5_12 : Arr x1_0 [.int .i64 r7.1.1, .int .i64 r7.1.2.1, .int .i64 r7.1.2.2] w12 := B5_11.kept k12 (by omega)
    have z12 := B5_12.lies
    clear K11 BF_11 B0_11 B1_11 B2_11 B3_11 B4_11 B5_11 k12
    have c7_B2_0 : w12.cell? ⟨w.heap.size + 1 + 1, 0, none⟩ = some (.int .i64 0) := B2_12.c 0 (of_decide_eq_true rfl)
    have c7_B2_1 : w12.cell? ⟨w.heap.size + 1 + 1, 1, none⟩ = some (.int .i64 0) := B2_12.c 1 (of_decide_eq_true rfl)
    have c7_B2_2 : w12.cell? ⟨w.heap.size + 1 + 1, 2, none⟩ = some (.int .i64 0) := B2_12.c 2 (of_decide_eq_true rfl)
    have c7_B2_3 : w12.cell? ⟨w.heap.size + 1 + 1, 3, none⟩ = some (.int .i64 0) := B2_12.c 3 (of_decide_eq_true rfl)
    have g7_B2_0 := B2_12.f 0 (of_decide_eq_true rfl)
    have g7_B2_1 := B2_12.f 1 (of_decide_eq_true rfl)
    have g7_B2_2 := B2_12.f 2 (of_decide_eq_true rfl)
    have g7_B2_3 := B2_12.f 3 (of_decide_eq_true rfl)
    go_wp2
    clear c7_B2_0 c7_B2_1 c7_B2_2 c7_B2_3 g7_B2_0 g7_B2_1 g7_B2_2 g7_B2_3
    have d0 := Arr.c (B2_12.put 0 (of_decide_eq_true rfl) (.int .i64 r12.1.1) [.int .i64 r12.1.1, .int .i64 0, .int .i64 0, .int .i64 0] rfl) 0 (of_decide_eq_true rfl)
    have d1 := Arr.c ((B2_12.put 0 (of_decide_eq_true rfl) (.int .i64 r12.1.1) [.int .i64 r12.1.1, .int .i64 0, .int .i64 0, .int .i64 0] rfl).put 1 (of_decide_eq_true rfl) (.int .i64 r12.1.2.1) [.int .i64 r12.1.1, .int .i64 r12.1.2.1, .int .i64 0, .int .i64 0] rfl) 1 (of_decide_eq_true rfl)
    have d2 := Arr.c (((B2_12.put 0 (of_decide_eq_true rfl) (.int .i64 r12.1.1) [.int .i64 r12.1.1, .int .i64 0, .int .i64 0, .int .i64 0] rfl).put 1 (of_decide_eq_true rfl) (.int .i64 r12.1.2.1) [.int .i64 r12.1.1, .int .i64 r12.1.2.1, .int .i64 0, .int .i64 0] rfl).put 2 (of_decide_eq_true rfl) (.int .i64 r12.1.2.2.1) [.int .i64 r12.1.1, .int .i64 r12.1.2.1, .int .i64 r12.1.2.2.1, .int .i64 0] rfl) 2 (of_decide_eq_true rfl)
    have d3 := Arr.c ((((B2_12.put 0 (of_decide_eq_true rfl) (.int .i64 r12.1.1) [.int .i64 r12.1.1, .int .i64 0, .int .i64 0, .int .i64 0] rfl).put 1 (of_decide_eq_true rfl) (.int .i64 r12.1.2.1) [.int .i64 r12.1.1, .int .i64 r12.1.2.1, .int .i64 0, .int .i64 0] rfl).put 2 (of_decide_eq_true rfl) (.int .i64 r12.1.2.2.1) [.int .i64 r12.1.1, .int .i64 r12.1.2.1, .int .i64 r12.1.2.2.1, .int .i64 0] rfl).put 3 (of_decide_eq_true rfl) (.int .i64 r12.1.2.2.2) [.int .i64 r12.1.1, .int .i64 r12.1.2.1, .int .i64 r12.1.2.2.1, .int .i64 r12.1.2.2.2] rfl) 3 (of_decide_eq_true rfl)
    refine bodyPost_ret (v := .agg #[.int .i64 r12.1.1, .int .i64 r12.1.2.1, .int .i64 r12.1.2.2.1, .int .i64 r12.1.2.2.2]) (by simp [results, Try.results18, go_sem, d0, d1, d2, d3]) rfl ?_
    have hs : qMulS bad p q = (r12.1, r12.2) := by unfold qMulS; simp only [E3.out, E4.out, E5.out, E6.out, E7.out, E8.out, E9.out, E10.out, E12.out]
    rw [hs]
    exact ⟨rfl, ((((f12.new _ _ (by omega) _).new _ _ (by omega) _).new _ _ (by omega) _).new _ _ (by omega) _), ((((K12.new _ _ (by omega) _).new _ _ (by omega) _).new _ _ (by omega) _).new _ _ (by omega) _)⟩
  refine wp_region_held_drew (S := fun w' => Arr w1.heap.size [.int .i64 p.1, .int .i64 p.2.1, .int .i64 p.2.2.1] w' ∧ Arr w2.heap.size [.int .i64 q.1, .int .i64 q.2.1, .int .i64 q.2.2.1] w') (by kernel_rfl) ⟨(B3_2.alloc _).drew, (Arr_at _ _ [.int .i64 q.1, .int .i64 q.2.1, .int .i64 q.2.2.1] _ (by simp)).drew⟩ (fun hHeld => ?_)
  refine take_at (i := 0) (v := ?v37) rfl (by kernel_rfl) (by kernel_rfl) (by kernel_rfl) (fun _ _ _ h => h) (Or.inl ⟨by rfl, ?y37⟩) hHeld ?t37
  case y37 => (intro wx hSw; go_simp <;> with_reducible rfl)
  simp only [Act.put, List.setIfInBounds_toArray, List.set_cons_zero, List.set_cons_succ]
  refine take_at (i := 1) (v := ?v38) rfl (by kernel_rfl) (by kernel_rfl) (by kernel_rfl) (fun _ _ _ h => h) (Or.inl ⟨by rfl, ?y38⟩) hHeld ?t38
  case y38 => (intro wx hSw; go_simp <;> with_reducible rfl)
  simp only [Act.put, List.setIfInBounds_toArray, List.set_cons_zero, List.set_cons_succ]
  refine take_at (i := 2) (v := ?v39) rfl (by kernel_rfl) (by kernel_rfl) (by kernel_rfl) (fun _ _ _ h => h) (Or.inl ⟨by rfl, ?y39⟩) hHeld ?t39
  case y39 => (intro wx hSw; go_simp <;> with_reducible rfl)
  simp only [Act.put, List.setIfInBounds_toArray, List.set_cons_zero, List.set_cons_succ]
  refine take_at (i := 3) (v := ?v40) rfl (by kernel_rfl) (by kernel_rfl) (by kernel_rfl) (fun _ _ _ h => h) (Or.inl ⟨by rfl, ?y40⟩) hHeld ?t40
  case y40 => (intro wx hSw; have hc0 : wx.cell? ⟨w1.heap.size, 0, none⟩ = some (.int .i64 p.1) := hSw.1.c 0 (of_decide_eq_true rfl); have hc1 : wx.cell? ⟨w1.heap.size, 1, none⟩ = some (.int .i64 p.2.1) := hSw.1.c 1 (of_decide_eq_true rfl); have hc2 : wx.cell? ⟨w1.heap.size, 2, none⟩ = some (.int .i64 p.2.2.1) := hSw.1.c 2 (of_decide_eq_true rfl); go_simp <;> with_reducible rfl)
  simp only [Act.put, List.setIfInBounds_toArray, List.set_cons_zero, List.set_cons_succ]
  refine take_at (i := 4) (v := ?v41) rfl (by kernel_rfl) (by kernel_rfl) (by kernel_rfl) (fun _ _ _ h => h) (Or.inl ⟨by rfl, ?y41⟩) hHeld ?t41
  case y41 => (intro wx hSw; go_simp <;> with_reducible rfl)
  simp only [Act.put, List.setIfInBounds_toArray, List.set_cons_zero, List.set_cons_succ]
  refine take_at (i := 6) (v := ?v42) rfl (by kernel_rfl) (by kernel_rfl) (by kernel_rfl) (fun _ _ _ h => h) (Or.inl ⟨by rfl, ?y42⟩) hHeld ?t42
  case y42 => (intro wx hSw; go_simp <;> with_reducible rfl)
  simp only [Act.put, List.setIfInBounds_toArray, List.set_cons_zero, List.set_cons_succ]
  refine take_at (i := 7) (v := ?v43) rfl (by kernel_rfl) (by kernel_rfl) (by kernel_rfl) (fun _ _ _ h => h) (Or.inl ⟨by rfl, ?y43⟩) hHeld ?t43
  case y43 => (intro wx hSw; have hc0 : wx.cell? ⟨w2.heap.size, 0, none⟩ = some (.int .i64 q.1) := hSw.2.c 0 (of_decide_eq_true rfl); have hc1 : wx.cell? ⟨w2.heap.size, 1, none⟩ = some (.int .i64 q.2.1) := hSw.2.c 1 (of_decide_eq_true rfl); have hc2 : wx.cell? ⟨w2.heap.size, 2, none⟩ = some (.int .i64 q.2.2.1) := hSw.2.c 2 (of_decide_eq_true rfl); go_simp <;> with_reducible rfl)
  simp only [Act.put, List.setIfInBounds_toArray, List.set_cons_zero, List.set_cons_succ]
  refine take_at (i := 8) (v := ?v44) rfl (by kernel_rfl) (by kernel_rfl) (by kernel_rfl) (fun _ _ _ h => h) (Or.inl ⟨by rfl, ?y44⟩) hHeld ?t44
  case y44 => (intro wx hSw; go_simp <;> with_reducible rfl)
  simp only [Act.put, List.setIfInBounds_toArray, List.set_cons_zero, List.set_cons_succ]
  refine take_at (i := 11) (v := ?v45) rfl (by kernel_rfl) (by kernel_rfl) (by kernel_rfl) (fun _ _ _ h => h) (Or.inl ⟨by rfl, ?y45⟩) hHeld ?t45
  case y45 => (intro wx hSw; go_simp <;> with_reducible rfl)
  simp only [Act.put, List.setIfInBounds_toArray, List.set_cons_zero, List.set_cons_succ]
  refine take_at (i := 12) (v := ?v46) rfl (by kernel_rfl) (by kernel_rfl) (by kernel_rfl) (fun _ _ _ h => h) (Or.inl ⟨by rfl, ?y46⟩) hHeld ?t46
  case y46 => (intro wx hSw; have hc0 : wx.cell? ⟨w2.heap.size, 0, none⟩ = some (.int .i64 q.1) := hSw.2.c 0 (of_decide_eq_true rfl); have hc1 : wx.cell? ⟨w2.heap.size, 1, none⟩ = some (.int .i64 q.2.1) := hSw.2.c 1 (of_decide_eq_true rfl); have hc2 : wx.cell? ⟨w2.heap.size, 2, none⟩ = some (.int .i64 q.2.2.1) := hSw.2.c 2 (of_decide_eq_true rfl); go_simp <;> with_reducible rfl)
  simp only [Act.put, List.setIfInBounds_toArray, List.set_cons_zero, List.set_cons_succ]
  refine take_at (i := 13) (v := ?v47) rfl (by kernel_rfl) (by kernel_rfl) (by kernel_rfl) (fun _ _ _ h => h) (Or.inl ⟨by rfl, ?y47⟩) hHeld ?t47
  case y47 => (intro wx hSw; have hc0 : wx.cell? ⟨w1.heap.size, 0, none⟩ = some (.int .i64 p.1) := hSw.1.c 0 (of_decide_eq_true rfl); have hc1 : wx.cell? ⟨w1.heap.size, 1, none⟩ = some (.int .i64 p.2.1) := hSw.1.c 1 (of_decide_eq_true rfl); have hc2 : wx.cell? ⟨w1.heap.size, 2, none⟩ = some (.int .i64 p.2.2.1) := hSw.1.c 2 (of_decide_eq_true rfl); go_simp <;> with_reducible rfl)
  simp only [Act.put, List.setIfInBounds_toArray, List.set_cons_zero, List.set_cons_succ]
  refine call_at2 (i0 := 5) (i1 := 16) (by kernel_rfl) rfl rfl (fun K hK => ?_) (fun K hK => ?_)
  · go_simp
    refine (vScale_any b bad (p.1, p.2.1, p.2.2.1) q.2.2.2 _ (BF_2.alloc _).drew).mono ?_
    rintro e w3 ⟨rfl, f3, k3⟩
    generalize e3 : vScaleS bad (p.1, p.2.1, p.2.2.1) q.2.2.2 = r3 at f3 ⊢
    have E3 : Hid _ := e3
    clear e3
    have K3 : Kept b w w3 := Kept.trans (K2.al _).drew k3
    have B0_3 : Arr w.heap.size [.int .i64 p.1, .int .i64 p.2.1, .int .i64 p.2.2.1, .int .i64 p.2.2.2] w3 := (B0_2.alloc _).drew.kept k3 (by omega)
    have B1_3 : Arr (w.heap.size + 1) [.int .i64 q.1, .int .i64 q.2.1, .int .i64 q.2.2.1, .int .i64 q.2.2.2] w3 := (B1_2.alloc _).drew.kept k3 (by omega)
    have B2_3 : Arr (w.heap.size + 1 + 1) [.int .i64 0, .int .i64 0, .int .i64 0, .int .i64 0] w3 := (B2_2.alloc _).drew.kept k3 (by omega)
    have B3_3 : Arr w1.heap.size [.int .i64 p.1, .int .i64 p.2.1, .int .i64 p.2.2.1] w3 := (B3_2.alloc _).drew.kept k3 (by omega)
    have B4_3 : Arr w2.heap.size [.int .i64 q.1, .int .i64 q.2.1, .int .i64 q.2.2.1] w3 := (Arr_at _ _ [.int .i64 q.1, .int .i64 q.2.1, .int .i64 q.2.2.1] _ (by simp)).drew.kept k3 (by omega)
    have z3 := B4_3.lies
    clear hHeld
    refine hK.out _ _ ⟨B3_3, B4_3⟩ (fun hHeld => ?_)
    clear hK K K2 BF_2 B0_2 B1_2 B2_2 B3_2 k3
    refine call_at2 (i0 := 9) (i1 := 16) (by kernel_rfl) rfl rfl (fun K hK => ?_) (fun K hK => ?_)
    · go_simp
      refine (vScale_any b r3.2 (q.1, q.2.1, q.2.2.1) p.2.2.2 _ f3).mono ?_
      rintro e w4 ⟨rfl, f4, k4⟩
      generalize e4 : vScaleS r3.2 (q.1, q.2.1, q.2.2.1) p.2.2.2 = r4 at f4 ⊢
      have E4 : Hid _ := e4
      clear e4
      have K4 : Kept b w w4 := Kept.trans K3 k4
      have B0_4 : Arr w.heap.size [.int .i64 p.1, .int .i64 p.2.1, .int .i64 p.2.2.1, .int .i64 p.2.2.2] w4 := B0_3.kept k4 (by omega)
      have B1_4 : Arr (w.heap.size + 1) [.int .i64 q.1, .int .i64 q.2.1, .int .i64 q.2.2.1, .int .i64 q.2.2.2] w4 := B1_3.kept k4 (by omega)
      have B2_4 : Arr (w.heap.size + 1 + 1) [.int .i64 0, .int .i64 0, .int .i64 0, .int .i64 0] w4 := B2_3.kept k4 (by omega)
      have B3_4 : Arr w1.heap.size [.int .i64 p.1, .int .i64 p.2.1, .int .i64 p.2.2.1] w4 := B3_3.kept k4 (by omega)
      have B4_4 : Arr w2.heap.size [.int .i64 q.1, .int .i64 q.2.1, .int .i64 q.2.2.1] w4 := B4_3.kept k4 (by omega)
      have z4 := B4_4.lies
      clear hHeld
      refine hK.out _ _ ⟨B3_4, B4_4⟩ (fun hHeld => ?_)
      clear hK K K3 f3 B0_3 B1_3 B2_3 B3_3 B4_3 k4
      refine call_at2 (i0 := 10) (i1 := 16) (by kernel_rfl) rfl rfl (fun K hK => ?_) (fun K hK => ?_)
      · go_simp
        refine (vAdd_any b r4.2 r3.1 r4.1 _ f4).mono ?_
        rintro e w5 ⟨rfl, f5, k5⟩
        generalize e5 : vAddS r4.2 r3.1 r4.1 = r5 at f5 ⊢
        have E5 : Hid _ := e5
        clear e5
        have K5 : Kept b w w5 := Kept.trans K4 k5
        have B0_5 : Arr w.heap.size [.int .i64 p.1, .int .i64 p.2.1, .int .i64 p.2.2.1, .int .i64 p.2.2.2] w5 := B0_4.kept k5 (by omega)
        have B1_5 : Arr (w.heap.size + 1) [.int .i64 q.1, .int .i64 q.2.1, .int .i64 q.2.2.1, .int .i64 q.2.2.2] w5 := B1_4.kept k5 (by omega)
        have B2_5 : Arr (w.heap.size + 1 + 1) [.int .i64 0, .int .i64 0, .int .i64 0, .int .i64 0] w5 := B2_4.kept k5 (by omega)
        have B3_5 : Arr w1.heap.size [.int .i64 p.1, .int .i64 p.2.1, .int .i64 p.2.2.1] w5 := B3_4.kept k5 (by omega)
        have B4_5 : Arr w2.heap.size [.int .i64 q.1, .int .i64 q.2.1, .int .i64 q.2.2.1] w5 := B4_4.kept k5 (by omega)
        have z5 := B4_5.lies
        clear hHeld
        refine hK.out _ _ ⟨B3_5, B4_5⟩ (fun hHeld => ?_)
        clear hK K K4 f4 B0_4 B1_4 B2_4 B3_4 B4_4 k5
        refine call_at2 (i0 := 14) (i1 := 16) (by kernel_rfl) rfl rfl (fun K hK => ?_) (fun K hK => ?_)
        · go_simp
          refine (vCross_any b r5.2 (q.1, q.2.1, q.2.2.1) (p.1, p.2.1, p.2.2.1) _ f5).mono ?_
          rintro e w6 ⟨rfl, f6, k6⟩
          generalize e6 : vCrossS r5.2 (q.1, q.2.1, q.2.2.1) (p.1, p.2.1, p.2.2.1) = r6 at f6 ⊢
          have E6 : Hid _ := e6
          clear e6
          have K6 : Kept b w w6 := Kept.trans K5 k6
          have B0_6 : Arr w.heap.size [.int .i64 p.1, .int .i64 p.2.1, .int .i64 p.2.2.1, .int .i64 p.2.2.2] w6 := B0_5.kept k6 (by omega)
          have B1_6 : Arr (w.heap.size + 1) [.int .i64 q.1, .int .i64 q.2.1, .int .i64 q.2.2.1, .int .i64 q.2.2.2] w6 := B1_5.kept k6 (by omega)
          have B2_6 : Arr (w.heap.size + 1 + 1) [.int .i64 0, .int .i64 0, .int .i64 0, .int .i64 0] w6 := B2_5.kept k6 (by omega)
          have B3_6 : Arr w1.heap.size [.int .i64 p.1, .int .i64 p.2.1, .int .i64 p.2.2.1] w6 := B3_5.kept k6 (by omega)
          have B4_6 : Arr w2.heap.size [.int .i64 q.1, .int .i64 q.2.1, .int .i64 q.2.2.1] w6 := B4_5.kept k6 (by omega)
          have z6 := B4_6.lies
          clear hHeld
          refine hK.out _ _ ⟨B3_6, B4_6⟩ (fun hHeld => ?_)
          clear hK K K5 f5 B0_5 B1_5 B2_5 B3_5 B4_5 k6
          refine call_at2 (i0 := 15) (i1 := 16) (by kernel_rfl) rfl rfl (fun K hK => ?_) (fun K hK => ?_)
          · go_simp
            refine (vAdd_any b r6.2 r5.1 r6.1 _ f6).mono ?_
            rintro e w7 ⟨rfl, f7, k7⟩
            generalize e7 : vAddS r6.2 r5.1 r6.1 = r7 at f7 ⊢
            have E7 : Hid _ := e7
            clear e7
            have K7 : Kept b w w7 := Kept.trans K6 k7
            have B0_7 : Arr w.heap.size [.int .i64 p.1, .int .i64 p.2.1, .int .i64 p.2.2.1, .int .i64 p.2.2.2] w7 := B0_6.kept k7 (by omega)
            have B1_7 : Arr (w.heap.size + 1) [.int .i64 q.1, .int .i64 q.2.1, .int .i64 q.2.2.1, .int .i64 q.2.2.2] w7 := B1_6.kept k7 (by omega)
            have B2_7 : Arr (w.heap.size + 1 + 1) [.int .i64 0, .int .i64 0, .int .i64 0, .int .i64 0] w7 := B2_6.kept k7 (by omega)
            have B3_7 : Arr w1.heap.size [.int .i64 p.1, .int .i64 p.2.1, .int .i64 p.2.2.1] w7 := B3_6.kept k7 (by omega)
            have B4_7 : Arr w2.heap.size [.int .i64 q.1, .int .i64 q.2.1, .int .i64 q.2.2.1] w7 := B4_6.kept k7 (by omega)
            have z7 := B4_7.lies
            clear hHeld
            refine hK.out _ _ ⟨B3_7, B4_7⟩ (fun hHeld => ?_)
            clear hK K K6 f6 B0_6 B1_6 B2_6 B3_6 B4_6 k7
            refine call_at (i := 16) (by kernel_rfl) rfl (fun K hK => ?_)
            go_simp
            clear hHeld
            refine hK.out _ _ ⟨(B3_7.alloc _), (B4_7.alloc _)⟩ (fun hHeld => ?_)
            clear hK K
            refine call_at (i := 17) (by kernel_rfl) rfl (fun K hK => ?_)
            go_simp
            clear hHeld
            refine hK.out _ _ ⟨(B3_7.alloc _), (B4_7.alloc _)⟩ (fun hHeld => ?_)
            clear hK K
            refine wpAnyH_done (by kernel_rfl) ?_ _
            clear hHeld
            exact cont1 _ _ _ _ _ _ _ _ _ _ _ _ _ _ _ _ _ _ _ _ _ _ _ _ _ _ _ w7.heap.size r3 r4 r5 r6 r7 E3 E4 E5 E6 E7 (K7.al _) (f7.alloc _) (B0_7.alloc _) (B1_7.alloc _) (B2_7.alloc _) (B3_7.alloc _) (B4_7.alloc _) (Arr_at _ _ [.int .i64 r7.1.1, .int .i64 r7.1.2.1, .int .i64 r7.1.2.2] _ (by simp)) (by omega) (by omega) (by omega) (by omega) (by omega) (by omega) (by omega)
          · go_simp
            clear hHeld
            refine hK.out _ _ ⟨(B3_6.alloc _), (B4_6.alloc _)⟩ (fun hHeld => ?_)
            clear hK K
            refine call_at (i := 15) (by kernel_rfl) rfl (fun K hK => ?_)
            go_simp
            refine (vAdd_any b r6.2 r5.1 r6.1 _ (f6.alloc _)).mono ?_
            rintro e w7 ⟨rfl, f7, k7⟩
            generalize e7 : vAddS r6.2 r5.1 r6.1 = r7 at f7 ⊢
            have E7 : Hid _ := e7
            clear e7
            have K7 : Kept b w w7 := Kept.trans (K6.al _) k7
            have B0_7 : Arr w.heap.size [.int .i64 p.1, .int .i64 p.2.1, .int .i64 p.2.2.1, .int .i64 p.2.2.2] w7 := (B0_6.alloc _).kept k7 (by omega)
            have B1_7 : Arr (w.heap.size + 1) [.int .i64 q.1, .int .i64 q.2.1, .int .i64 q.2.2.1, .int .i64 q.2.2.2] w7 := (B1_6.alloc _).kept k7 (by omega)
            have B2_7 : Arr (w.heap.size + 1 + 1) [.int .i64 0, .int .i64 0, .int .i64 0, .int .i64 0] w7 := (B2_6.alloc _).kept k7 (by omega)
            have B3_7 : Arr w1.heap.size [.int .i64 p.1, .int .i64 p.2.1, .int .i64 p.2.2.1] w7 := (B3_6.alloc _).kept k7 (by omega)
            have B4_7 : Arr w2.heap.size [.int .i64 q.1, .int .i64 q.2.1, .int .i64 q.2.2.1] w7 := (B4_6.alloc _).kept k7 (by omega)
            have B5_7 : Arr w6.heap.size [.int .i64 0, .int .i64 0, .int .i64 0] w7 := (Arr_at _ _ [.int .i64 0, .int .i64 0, .int .i64 0] _ (by simp)).kept k7 (by omega)
            have z7 := B5_7.lies
            clear hHeld
            refine hK.out _ _ ⟨B3_7, B4_7⟩ (fun hHeld => ?_)
            clear hK K K6 f6 B0_6 B1_6 B2_6 B3_6 B4_6 k7
            refine call_at (i := 17) (by kernel_rfl) rfl (fun K hK => ?_)
            have c5_B5_0 : w7.cell? ⟨w6.heap.size, 0, none⟩ = some (.int .i64 0) := B5_7.c 0 (of_decide_eq_true rfl)
            have c5_B5_1 : w7.cell? ⟨w6.heap.size, 1, none⟩ = some (.int .i64 0) := B5_7.c 1 (of_decide_eq_true rfl)
            have c5_B5_2 : w7.cell? ⟨w6.heap.size, 2, none⟩ = some (.int .i64 0) := B5_7.c 2 (of_decide_eq_true rfl)
            have g5_B5_0 := B5_7.f 0 (of_decide_eq_true rfl)
            have g5_B5_1 := B5_7.f 1 (of_decide_eq_true rfl)
            have g5_B5_2 := B5_7.f 2 (of_decide_eq_true rfl)
            go_simp
            clear hHeld
            refine hK.out _ _ ⟨(((B3_7.new _ _ (by omega) _).new _ _ (by omega) _).new _ _ (by omega) _), (((B4_7.new _ _ (by omega) _).new _ _ (by omega) _).new _ _ (by omega) _)⟩ (fun hHeld => ?_)
            clear hK K c5_B5_0 c5_B5_1 c5_B5_2 g5_B5_0 g5_B5_1 g5_B5_2
            refine wpAnyH_done (by kernel_rfl) ?_ _
            clear hHeld
            exact cont1 _ _ _ _ _ _ _ _ _ _ _ _ _ _ _ _ _ _ _ _ _ _ _ _ _ _ _ w6.heap.size r3 r4 r5 r6 r7 E3 E4 E5 E6 E7 (((K7.new _ _ (by omega) _).new _ _ (by omega) _).new _ _ (by omega) _) (((f7.new _ _ (by omega) _).new _ _ (by omega) _).new _ _ (by omega) _) (((B0_7.new _ _ (by omega) _).new _ _ (by omega) _).new _ _ (by omega) _) (((B1_7.new _ _ (by omega) _).new _ _ (by omega) _).new _ _ (by omega) _) (((B2_7.new _ _ (by omega) _).new _ _ (by omega) _).new _ _ (by omega) _) (((B3_7.new _ _ (by omega) _).new _ _ (by omega) _).new _ _ (by omega) _) (((B4_7.new _ _ (by omega) _).new _ _ (by omega) _).new _ _ (by omega) _) (((B5_7.put 0 (of_decide_eq_true rfl) (.int .i64 r7.1.1) [.int .i64 r7.1.1, .int .i64 0, .int .i64 0] rfl).put 1 (of_decide_eq_true rfl) (.int .i64 r7.1.2.1) [.int .i64 r7.1.1, .int .i64 r7.1.2.1, .int .i64 0] rfl).put 2 (of_decide_eq_true rfl) (.int .i64 r7.1.2.2) [.int .i64 r7.1.1, .int .i64 r7.1.2.1, .int .i64 r7.1.2.2] rfl) (by omega) (by omega) (by omega) (by omega) (by omega) (by omega) (by omega)
        · go_simp
          clear hHeld
          refine hK.out _ _ ⟨(B3_5.alloc _), (B4_5.alloc _)⟩ (fun hHeld => ?_)
          clear hK K
          refine call_at (i := 14) (by kernel_rfl) rfl (fun K hK => ?_)
          go_simp
          refine (vCross_any b r5.2 (q.1, q.2.1, q.2.2.1) (p.1, p.2.1, p.2.2.1) _ (f5.alloc _)).mono ?_
          rintro e w6 ⟨rfl, f6, k6⟩
          generalize e6 : vCrossS r5.2 (q.1, q.2.1, q.2.2.1) (p.1, p.2.1, p.2.2.1) = r6 at f6 ⊢
          have E6 : Hid _ := e6
          clear e6
          have K6 : Kept b w w6 := Kept.trans (K5.al _) k6
          have B0_6 : Arr w.heap.size [.int .i64 p.1, .int .i64 p.2.1, .int .i64 p.2.2.1, .int .i64 p.2.2.2] w6 := (B0_5.alloc _).kept k6 (by omega)
          have B1_6 : Arr (w.heap.size + 1) [.int .i64 q.1, .int .i64 q.2.1, .int .i64 q.2.2.1, .int .i64 q.2.2.2] w6 := (B1_5.alloc _).kept k6 (by omega)
          have B2_6 : Arr (w.heap.size + 1 + 1) [.int .i64 0, .int .i64 0, .int .i64 0, .int .i64 0] w6 := (B2_5.alloc _).kept k6 (by omega)
          have B3_6 : Arr w1.heap.size [.int .i64 p.1, .int .i64 p.2.1, .int .i64 p.2.2.1] w6 := (B3_5.alloc _).kept k6 (by omega)
          have B4_6 : Arr w2.heap.size [.int .i64 q.1, .int .i64 q.2.1, .int .i64 q.2.2.1] w6 := (B4_5.alloc _).kept k6 (by omega)
          have B5_6 : Arr w5.heap.size [.int .i64 0, .int .i64 0, .int .i64 0] w6 := (Arr_at _ _ [.int .i64 0, .int .i64 0, .int .i64 0] _ (by simp)).kept k6 (by omega)
          have z6 := B5_6.lies
          clear hHeld
          refine hK.out _ _ ⟨B3_6, B4_6⟩ (fun hHeld => ?_)
          clear hK K K5 f5 B0_5 B1_5 B2_5 B3_5 B4_5 k6
          refine call_at (i := 15) (by kernel_rfl) rfl (fun K hK => ?_)
          go_simp
          refine (vAdd_any b r6.2 r5.1 r6.1 _ f6).mono ?_
          rintro e w7 ⟨rfl, f7, k7⟩
          generalize e7 : vAddS r6.2 r5.1 r6.1 = r7 at f7 ⊢
          have E7 : Hid _ := e7
          clear e7
          have K7 : Kept b w w7 := Kept.trans K6 k7
          have B0_7 : Arr w.heap.size [.int .i64 p.1, .int .i64 p.2.1, .int .i64 p.2.2.1, .int .i64 p.2.2.2] w7 := B0_6.kept k7 (by omega)
          have B1_7 : Arr (w.heap.size + 1) [.int .i64 q.1, .int .i64 q.2.1, .int .i64 q.2.2.1, .int .i64 q.2.2.2] w7 := B1_6.kept k7 (by omega)
          have B2_7 : Arr (w.heap.size + 1 + 1) [.int .i64 0, .int .i64 0, .int .i64 0, .int .i64 0] w7 := B2_6.kept k7 (by omega)
          have B3_7 : Arr w1.heap.size [.int .i64 p.1, .int .i64 p.2.1, .int .i64 p.2.2.1] w7 := B3_6.kept k7 (by omega)
          have B4_7 : Arr w2.heap.size [.int .i64 q.1, .int .i64 q.2.1, .int .i64 q.2.2.1] w7 := B4_6.kept k7 (by omega)
          have B5_7 : Arr w5.heap.size [.int .i64 0, .int .i64 0, .int .i64 0] w7 := B5_6.kept k7 (by omega)
          have z7 := B5_7.lies
          clear hHeld
          refine hK.out _ _ ⟨B3_7, B4_7⟩ (fun hHeld => ?_)
          clear hK K K6 f6 B0_6 B1_6 B2_6 B3_6 B4_6 B5_6 k7
          refine call_at (i := 17) (by kernel_rfl) rfl (fun K hK => ?_)
          have c5_B5_0 : w7.cell? ⟨w5.heap.size, 0, none⟩ = some (.int .i64 0) := B5_7.c 0 (of_decide_eq_true rfl)
          have c5_B5_1 : w7.cell? ⟨w5.heap.size, 1, none⟩ = some (.int .i64 0) := B5_7.c 1 (of_decide_eq_true rfl)
          have c5_B5_2 : w7.cell? ⟨w5.heap.size, 2, none⟩ = some (.int .i64 0) := B5_7.c 2 (of_decide_eq_true rfl)
          have g5_B5_0 := B5_7.f 0 (of_decide_eq_true rfl)
          have g5_B5_1 := B5_7.f 1 (of_decide_eq_true rfl)
          have g5_B5_2 := B5_7.f 2 (of_decide_eq_true rfl)
          go_simp
          clear hHeld
          refine hK.out _ _ ⟨(((B3_7.new _ _ (by omega) _).new _ _ (by omega) _).new _ _ (by omega) _), (((B4_7.new _ _ (by omega) _).new _ _ (by omega) _).new _ _ (by omega) _)⟩ (fun hHeld => ?_)
          clear hK K c5_B5_0 c5_B5_1 c5_B5_2 g5_B5_0 g5_B5_1 g5_B5_2
          refine wpAnyH_done (by kernel_rfl) ?_ _
          clear hHeld
          exact cont1 _ _ _ _ _ _ _ _ _ _ _ _ _ _ _ _ _ _ _ _ _ _ _ _ _ _ _ w5.heap.size r3 r4 r5 r6 r7 E3 E4 E5 E6 E7 (((K7.new _ _ (by omega) _).new _ _ (by omega) _).new _ _ (by omega) _) (((f7.new _ _ (by omega) _).new _ _ (by omega) _).new _ _ (by omega) _) (((B0_7.new _ _ (by omega) _).new _ _ (by omega) _).new _ _ (by omega) _) (((B1_7.new _ _ (by omega) _).new _ _ (by omega) _).new _ _ (by omega) _) (((B2_7.new _ _ (by omega) _).new _ _ (by omega) _).new _ _ (by omega) _) (((B3_7.new _ _ (by omega) _).new _ _ (by omega) _).new _ _ (by omega) _) (((B4_7.new _ _ (by omega) _).new _ _ (by omega) _).new _ _ (by omega) _) (((B5_7.put 0 (of_decide_eq_true rfl) (.int .i64 r7.1.1) [.int .i64 r7.1.1, .int .i64 0, .int .i64 0] rfl).put 1 (of_decide_eq_true rfl) (.int .i64 r7.1.2.1) [.int .i64 r7.1.1, .int .i64 r7.1.2.1, .int .i64 0] rfl).put 2 (of_decide_eq_true rfl) (.int .i64 r7.1.2.2) [.int .i64 r7.1.1, .int .i64 r7.1.2.1, .int .i64 r7.1.2.2] rfl) (by omega) (by omega) (by omega) (by omega) (by omega) (by omega) (by omega)
      · go_simp
        clear hHeld
        refine hK.out _ _ ⟨(B3_4.alloc _), (B4_4.alloc _)⟩ (fun hHeld => ?_)
        clear hK K
        refine call_at (i := 10) (by kernel_rfl) rfl (fun K hK => ?_)
        go_simp
        refine (vAdd_any b r4.2 r3.1 r4.1 _ (f4.alloc _)).mono ?_
        rintro e w5 ⟨rfl, f5, k5⟩
        generalize e5 : vAddS r4.2 r3.1 r4.1 = r5 at f5 ⊢
        have E5 : Hid _ := e5
        clear e5
        have K5 : Kept b w w5 := Kept.trans (K4.al _) k5
        have B0_5 : Arr w.heap.size [.int .i64 p.1, .int .i64 p.2.1, .int .i64 p.2.2.1, .int .i64 p.2.2.2] w5 := (B0_4.alloc _).kept k5 (by omega)
        have B1_5 : Arr (w.heap.size + 1) [.int .i64 q.1, .int .i64 q.2.1, .int .i64 q.2.2.1, .int .i64 q.2.2.2] w5 := (B1_4.alloc _).kept k5 (by omega)
        have B2_5 : Arr (w.heap.size + 1 + 1) [.int .i64 0, .int .i64 0, .int .i64 0, .int .i64 0] w5 := (B2_4.alloc _).kept k5 (by omega)
        have B3_5 : Arr w1.heap.size [.int .i64 p.1, .int .i64 p.2.1, .int .i64 p.2.2.1] w5 := (B3_4.alloc _).kept k5 (by omega)
        have B4_5 : Arr w2.heap.size [.int .i64 q.1, .int .i64 q.2.1, .int .i64 q.2.2.1] w5 := (B4_4.alloc _).kept k5 (by omega)
        have B5_5 : Arr w4.heap.size [.int .i64 0, .int .i64 0, .int .i64 0] w5 := (Arr_at _ _ [.int .i64 0, .int .i64 0, .int .i64 0] _ (by simp)).kept k5 (by omega)
        have z5 := B5_5.lies
        clear hHeld
        refine hK.out _ _ ⟨B3_5, B4_5⟩ (fun hHeld => ?_)
        clear hK K K4 f4 B0_4 B1_4 B2_4 B3_4 B4_4 k5
        refine call_at (i := 14) (by kernel_rfl) rfl (fun K hK => ?_)
        go_simp
        refine (vCross_any b r5.2 (q.1, q.2.1, q.2.2.1) (p.1, p.2.1, p.2.2.1) _ f5).mono ?_
        rintro e w6 ⟨rfl, f6, k6⟩
        generalize e6 : vCrossS r5.2 (q.1, q.2.1, q.2.2.1) (p.1, p.2.1, p.2.2.1) = r6 at f6 ⊢
        have E6 : Hid _ := e6
        clear e6
        have K6 : Kept b w w6 := Kept.trans K5 k6
        have B0_6 : Arr w.heap.size [.int .i64 p.1, .int .i64 p.2.1, .int .i64 p.2.2.1, .int .i64 p.2.2.2] w6 := B0_5.kept k6 (by omega)
        have B1_6 : Arr (w.heap.size + 1) [.int .i64 q.1, .int .i64 q.2.1, .int .i64 q.2.2.1, .int .i64 q.2.2.2] w6 := B1_5.kept k6 (by omega)
        have B2_6 : Arr (w.heap.size + 1 + 1) [.int .i64 0, .int .i64 0, .int .i64 0, .int .i64 0] w6 := B2_5.kept k6 (by omega)
        have B3_6 : Arr w1.heap.size [.int .i64 p.1, .int .i64 p.2.1, .int .i64 p.2.2.1] w6 := B3_5.kept k6 (by omega)
        have B4_6 : Arr w2.heap.size [.int .i64 q.1, .int .i64 q.2.1, .int .i64 q.2.2.1] w6 := B4_5.kept k6 (by omega)
        have B5_6 : Arr w4.heap.size [.int .i64 0, .int .i64 0, .int .i64 0] w6 := B5_5.kept k6 (by omega)
        have z6 := B5_6.lies
        clear hHeld
        refine hK.out _ _ ⟨B3_6, B4_6⟩ (fun hHeld => ?_)
        clear hK K K5 f5 B0_5 B1_5 B2_5 B3_5 B4_5 B5_5 k6
        refine call_at (i := 15) (by kernel_rfl) rfl (fun K hK => ?_)
        go_simp
        refine (vAdd_any b r6.2 r5.1 r6.1 _ f6).mono ?_
        rintro e w7 ⟨rfl, f7, k7⟩
        generalize e7 : vAddS r6.2 r5.1 r6.1 = r7 at f7 ⊢
        have E7 : Hid _ := e7
        clear e7
        have K7 : Kept b w w7 := Kept.trans K6 k7
        have B0_7 : Arr w.heap.size [.int .i64 p.1, .int .i64 p.2.1, .int .i64 p.2.2.1, .int .i64 p.2.2.2] w7 := B0_6.kept k7 (by omega)
        have B1_7 : Arr (w.heap.size + 1) [.int .i64 q.1, .int .i64 q.2.1, .int .i64 q.2.2.1, .int .i64 q.2.2.2] w7 := B1_6.kept k7 (by omega)
        have B2_7 : Arr (w.heap.size + 1 + 1) [.int .i64 0, .int .i64 0, .int .i64 0, .int .i64 0] w7 := B2_6.kept k7 (by omega)
        have B3_7 : Arr w1.heap.size [.int .i64 p.1, .int .i64 p.2.1, .int .i64 p.2.2.1] w7 := B3_6.kept k7 (by omega)
        have B4_7 : Arr w2.heap.size [.int .i64 q.1, .int .i64 q.2.1, .int .i64 q.2.2.1] w7 := B4_6.kept k7 (by omega)
        have B5_7 : Arr w4.heap.size [.int .i64 0, .int .i64 0, .int .i64 0] w7 := B5_6.kept k7 (by omega)
        have z7 := B5_7.lies
        clear hHeld
        refine hK.out _ _ ⟨B3_7, B4_7⟩ (fun hHeld => ?_)
        clear hK K K6 f6 B0_6 B1_6 B2_6 B3_6 B4_6 B5_6 k7
        refine call_at (i := 17) (by kernel_rfl) rfl (fun K hK => ?_)
        have c5_B5_0 : w7.cell? ⟨w4.heap.size, 0, none⟩ = some (.int .i64 0) := B5_7.c 0 (of_decide_eq_true rfl)
        have c5_B5_1 : w7.cell? ⟨w4.heap.size, 1, none⟩ = some (.int .i64 0) := B5_7.c 1 (of_decide_eq_true rfl)
        have c5_B5_2 : w7.cell? ⟨w4.heap.size, 2, none⟩ = some (.int .i64 0) := B5_7.c 2 (of_decide_eq_true rfl)
        have g5_B5_0 := B5_7.f 0 (of_decide_eq_true rfl)
        have g5_B5_1 := B5_7.f 1 (of_decide_eq_true rfl)
        have g5_B5_2 := B5_7.f 2 (of_decide_eq_true rfl)
        go_simp
        clear hHeld
        refine hK.out _ _ ⟨(((B3_7.new _ _ (by omega) _).new _ _ (by omega) _).new _ _ (by omega) _), (((B4_7.new _ _ (by omega) _).new _ _ (by omega) _).new _ _ (by omega) _)⟩ (fun hHeld => ?_)
        clear hK K c5_B5_0 c5_B5_1 c5_B5_2 g5_B5_0 g5_B5_1 g5_B5_2
        refine wpAnyH_done (by kernel_rfl) ?_ _
        clear hHeld
        exact cont1 _ _ _ _ _ _ _ _ _ _ _ _ _ _ _ _ _ _ _ _ _ _ _ _ _ _ _ w4.heap.size r3 r4 r5 r6 r7 E3 E4 E5 E6 E7 (((K7.new _ _ (by omega) _).new _ _ (by omega) _).new _ _ (by omega) _) (((f7.new _ _ (by omega) _).new _ _ (by omega) _).new _ _ (by omega) _) (((B0_7.new _ _ (by omega) _).new _ _ (by omega) _).new _ _ (by omega) _) (((B1_7.new _ _ (by omega) _).new _ _ (by omega) _).new _ _ (by omega) _) (((B2_7.new _ _ (by omega) _).new _ _ (by omega) _).new _ _ (by omega) _) (((B3_7.new _ _ (by omega) _).new _ _ (by omega) _).new _ _ (by omega) _) (((B4_7.new _ _ (by omega) _).new _ _ (by omega) _).new _ _ (by omega) _) (((B5_7.put 0 (of_decide_eq_true rfl) (.int .i64 r7.1.1) [.int .i64 r7.1.1, .int .i64 0, .int .i64 0] rfl).put 1 (of_decide_eq_true rfl) (.int .i64 r7.1.2.1) [.int .i64 r7.1.1, .int .i64 r7.1.2.1, .int .i64 0] rfl).put 2 (of_decide_eq_true rfl) (.int .i64 r7.1.2.2) [.int .i64 r7.1.1, .int .i64 r7.1.2.1, .int .i64 r7.1.2.2] rfl) (by omega) (by omega) (by omega) (by omega) (by omega) (by omega) (by omega)
    · go_simp
      clear hHeld
      refine hK.out _ _ ⟨(B3_3.alloc _), (B4_3.alloc _)⟩ (fun hHeld => ?_)
      clear hK K
      refine call_at (i := 9) (by kernel_rfl) rfl (fun K hK => ?_)
      go_simp
      refine (vScale_any b r3.2 (q.1, q.2.1, q.2.2.1) p.2.2.2 _ (f3.alloc _)).mono ?_
      rintro e w4 ⟨rfl, f4, k4⟩
      generalize e4 : vScaleS r3.2 (q.1, q.2.1, q.2.2.1) p.2.2.2 = r4 at f4 ⊢
      have E4 : Hid _ := e4
      clear e4
      have K4 : Kept b w w4 := Kept.trans (K3.al _) k4
      have B0_4 : Arr w.heap.size [.int .i64 p.1, .int .i64 p.2.1, .int .i64 p.2.2.1, .int .i64 p.2.2.2] w4 := (B0_3.alloc _).kept k4 (by omega)
      have B1_4 : Arr (w.heap.size + 1) [.int .i64 q.1, .int .i64 q.2.1, .int .i64 q.2.2.1, .int .i64 q.2.2.2] w4 := (B1_3.alloc _).kept k4 (by omega)
      have B2_4 : Arr (w.heap.size + 1 + 1) [.int .i64 0, .int .i64 0, .int .i64 0, .int .i64 0] w4 := (B2_3.alloc _).kept k4 (by omega)
      have B3_4 : Arr w1.heap.size [.int .i64 p.1, .int .i64 p.2.1, .int .i64 p.2.2.1] w4 := (B3_3.alloc _).kept k4 (by omega)
      have B4_4 : Arr w2.heap.size [.int .i64 q.1, .int .i64 q.2.1, .int .i64 q.2.2.1] w4 := (B4_3.alloc _).kept k4 (by omega)
      have B5_4 : Arr w3.heap.size [.int .i64 0, .int .i64 0, .int .i64 0] w4 := (Arr_at _ _ [.int .i64 0, .int .i64 0, .int .i64 0] _ (by simp)).kept k4 (by omega)
      have z4 := B5_4.lies
      clear hHeld
      refine hK.out _ _ ⟨B3_4, B4_4⟩ (fun hHeld => ?_)
      clear hK K K3 f3 B0_3 B1_3 B2_3 B3_3 B4_3 k4
      refine call_at (i := 10) (by kernel_rfl) rfl (fun K hK => ?_)
      go_simp
      refine (vAdd_any b r4.2 r3.1 r4.1 _ f4).mono ?_
      rintro e w5 ⟨rfl, f5, k5⟩
      generalize e5 : vAddS r4.2 r3.1 r4.1 = r5 at f5 ⊢
      have E5 : Hid _ := e5
      clear e5
      have K5 : Kept b w w5 := Kept.trans K4 k5
      have B0_5 : Arr w.heap.size [.int .i64 p.1, .int .i64 p.2.1, .int .i64 p.2.2.1, .int .i64 p.2.2.2] w5 := B0_4.kept k5 (by omega)
      have B1_5 : Arr (w.heap.size + 1) [.int .i64 q.1, .int .i64 q.2.1, .int .i64 q.2.2.1, .int .i64 q.2.2.2] w5 := B1_4.kept k5 (by omega)
      have B2_5 : Arr (w.heap.size + 1 + 1) [.int .i64 0, .int .i64 0, .int .i64 0, .int .i64 0] w5 := B2_4.kept k5 (by omega)
      have B3_5 : Arr w1.heap.size [.int .i64 p.1, .int .i64 p.2.1, .int .i64 p.2.2.1] w5 := B3_4.kept k5 (by omega)
      have B4_5 : Arr w2.heap.size [.int .i64 q.1, .int .i64 q.2.1, .int .i64 q.2.2.1] w5 := B4_4.kept k5 (by omega)
      have B5_5 : Arr w3.heap.size [.int .i64 0, .int .i64 0, .int .i64 0] w5 := B5_4.kept k5 (by omega)
      have z5 := B5_5.lies
      clear hHeld
      refine hK.out _ _ ⟨B3_5, B4_5⟩ (fun hHeld => ?_)
      clear hK K K4 f4 B0_4 B1_4 B2_4 B3_4 B4_4 B5_4 k5
      refine call_at (i := 14) (by kernel_rfl) rfl (fun K hK => ?_)
      go_simp
      refine (vCross_any b r5.2 (q.1, q.2.1, q.2.2.1) (p.1, p.2.1, p.2.2.1) _ f5).mono ?_
      rintro e w6 ⟨rfl, f6, k6⟩
      generalize e6 : vCrossS r5.2 (q.1, q.2.1, q.2.2.1) (p.1, p.2.1, p.2.2.1) = r6 at f6 ⊢
      have E6 : Hid _ := e6
      clear e6
      have K6 : Kept b w w6 := Kept.trans K5 k6
      have B0_6 : Arr w.heap.size [.int .i64 p.1, .int .i64 p.2.1, .int .i64 p.2.2.1, .int .i64 p.2.2.2] w6 := B0_5.kept k6 (by omega)
      have B1_6 : Arr (w.heap.size + 1) [.int .i64 q.1, .int .i64 q.2.1, .int .i64 q.2.2.1, .int .i64 q.2.2.2] w6 := B1_5.kept k6 (by omega)
      have B2_6 : Arr (w.heap.size + 1 + 1) [.int .i64 0, .int .i64 0, .int .i64 0, .int .i64 0] w6 := B2_5.kept k6 (by omega)
      have B3_6 : Arr w1.heap.size [.int .i64 p.1, .int .i64 p.2.1, .int .i64 p.2.2.1] w6 := B3_5.kept k6 (by omega)
      have B4_6 : Arr w2.heap.size [.int .i64 q.1, .int .i64 q.2.1, .int .i64 q.2.2.1] w6 := B4_5.kept k6 (by omega)
      have B5_6 : Arr w3.heap.size [.int .i64 0, .int .i64 0, .int .i64 0] w6 := B5_5.kept k6 (by omega)
      have z6 := B5_6.lies
      clear hHeld
      refine hK.out _ _ ⟨B3_6, B4_6⟩ (fun hHeld => ?_)
      clear hK K K5 f5 B0_5 B1_5 B2_5 B3_5 B4_5 B5_5 k6
      refine call_at (i := 15) (by kernel_rfl) rfl (fun K hK => ?_)
      go_simp
      refine (vAdd_any b r6.2 r5.1 r6.1 _ f6).mono ?_
      rintro e w7 ⟨rfl, f7, k7⟩
      generalize e7 : vAddS r6.2 r5.1 r6.1 = r7 at f7 ⊢
      have E7 : Hid _ := e7
      clear e7
      have K7 : Kept b w w7 := Kept.trans K6 k7
      have B0_7 : Arr w.heap.size [.int .i64 p.1, .int .i64 p.2.1, .int .i64 p.2.2.1, .int .i64 p.2.2.2] w7 := B0_6.kept k7 (by omega)
      have B1_7 : Arr (w.heap.size + 1) [.int .i64 q.1, .int .i64 q.2.1, .int .i64 q.2.2.1, .int .i64 q.2.2.2] w7 := B1_6.kept k7 (by omega)
      have B2_7 : Arr (w.heap.size + 1 + 1) [.int .i64 0, .int .i64 0, .int .i64 0, .int .i64 0] w7 := B2_6.kept k7 (by omega)
      have B3_7 : Arr w1.heap.size [.int .i64 p.1, .int .i64 p.2.1, .int .i64 p.2.2.1] w7 := B3_6.kept k7 (by omega)
      have B4_7 : Arr w2.heap.size [.int .i64 q.1, .int .i64 q.2.1, .int .i64 q.2.2.1] w7 := B4_6.kept k7 (by omega)
      have B5_7 : Arr w3.heap.size [.int .i64 0, .int .i64 0, .int .i64 0] w7 := B5_6.kept k7 (by omega)
      have z7 := B5_7.lies
      clear hHeld
      refine hK.out _ _ ⟨B3_7, B4_7⟩ (fun hHeld => ?_)
      clear hK K K6 f6 B0_6 B1_6 B2_6 B3_6 B4_6 B5_6 k7
      refine call_at (i := 17) (by kernel_rfl) rfl (fun K hK => ?_)
      have c5_B5_0 : w7.cell? ⟨w3.heap.size, 0, none⟩ = some (.int .i64 0) := B5_7.c 0 (of_decide_eq_true rfl)
      have c5_B5_1 : w7.cell? ⟨w3.heap.size, 1, none⟩ = some (.int .i64 0) := B5_7.c 1 (of_decide_eq_true rfl)
      have c5_B5_2 : w7.cell? ⟨w3.heap.size, 2, none⟩ = some (.int .i64 0) := B5_7.c 2 (of_decide_eq_true rfl)
      have g5_B5_0 := B5_7.f 0 (of_decide_eq_true rfl)
      have g5_B5_1 := B5_7.f 1 (of_decide_eq_true rfl)
      have g5_B5_2 := B5_7.f 2 (of_decide_eq_true rfl)
      go_simp
      clear hHeld
      refine hK.out _ _ ⟨(((B3_7.new _ _ (by omega) _).new _ _ (by omega) _).new _ _ (by omega) _), (((B4_7.new _ _ (by omega) _).new _ _ (by omega) _).new _ _ (by omega) _)⟩ (fun hHeld => ?_)
      clear hK K c5_B5_0 c5_B5_1 c5_B5_2 g5_B5_0 g5_B5_1 g5_B5_2
      refine wpAnyH_done (by kernel_rfl) ?_ _
      clear hHeld
      exact cont1 _ _ _ _ _ _ _ _ _ _ _ _ _ _ _ _ _ _ _ _ _ _ _ _ _ _ _ w3.heap.size r3 r4 r5 r6 r7 E3 E4 E5 E6 E7 (((K7.new _ _ (by omega) _).new _ _ (by omega) _).new _ _ (by omega) _) (((f7.new _ _ (by omega) _).new _ _ (by omega) _).new _ _ (by omega) _) (((B0_7.new _ _ (by omega) _).new _ _ (by omega) _).new _ _ (by omega) _) (((B1_7.new _ _ (by omega) _).new _ _ (by omega) _).new _ _ (by omega) _) (((B2_7.new _ _ (by omega) _).new _ _ (by omega) _).new _ _ (by omega) _) (((B3_7.new _ _ (by omega) _).new _ _ (by omega) _).new _ _ (by omega) _) (((B4_7.new _ _ (by omega) _).new _ _ (by omega) _).new _ _ (by omega) _) (((B5_7.put 0 (of_decide_eq_true rfl) (.int .i64 r7.1.1) [.int .i64 r7.1.1, .int .i64 0, .int .i64 0] rfl).put 1 (of_decide_eq_true rfl) (.int .i64 r7.1.2.1) [.int .i64 r7.1.1, .int .i64 r7.1.2.1, .int .i64 0] rfl).put 2 (of_decide_eq_true rfl) (.int .i64 r7.1.2.2) [.int .i64 r7.1.1, .int .i64 r7.1.2.1, .int .i64 r7.1.2.2] rfl) (by omega) (by omega) (by omega) (by omega) (by omega) (by omega) (by omega)
  · go_simp
    clear hHeld
    refine hK.out _ _ ⟨((B3_2.alloc _).drew.alloc _), ((Arr_at _ _ [.int .i64 q.1, .int .i64 q.2.1, .int .i64 q.2.2.1] _ (by simp)).drew.alloc _)⟩ (fun hHeld => ?_)
    clear hK K
    refine call_at (i := 5) (by kernel_rfl) rfl (fun K hK => ?_)
    go_simp
    refine (vScale_any b bad (p.1, p.2.1, p.2.2.1) q.2.2.2 _ ((BF_2.alloc _).drew.alloc _)).mono ?_
    rintro e w3 ⟨rfl, f3, k3⟩
    generalize e3 : vScaleS bad (p.1, p.2.1, p.2.2.1) q.2.2.2 = r3 at f3 ⊢
    have E3 : Hid _ := e3
    clear e3
    have K3 : Kept b w w3 := Kept.trans ((K2.al _).drew.al _) k3
    have B0_3 : Arr w.heap.size [.int .i64 p.1, .int .i64 p.2.1, .int .i64 p.2.2.1, .int .i64 p.2.2.2] w3 := ((B0_2.alloc _).drew.alloc _).kept k3 (by omega)
    have B1_3 : Arr (w.heap.size + 1) [.int .i64 q.1, .int .i64 q.2.1, .int .i64 q.2.2.1, .int .i64 q.2.2.2] w3 := ((B1_2.alloc _).drew.alloc _).kept k3 (by omega)
    have B2_3 : Arr (w.heap.size + 1 + 1) [.int .i64 0, .int .i64 0, .int .i64 0, .int .i64 0] w3 := ((B2_2.alloc _).drew.alloc _).kept k3 (by omega)
    have B3_3 : Arr w1.heap.size [.int .i64 p.1, .int .i64 p.2.1, .int .i64 p.2.2.1] w3 := ((B3_2.alloc _).drew.alloc _).kept k3 (by omega)
    have B4_3 : Arr w2.heap.size [.int .i64 q.1, .int .i64 q.2.1, .int .i64 q.2.2.1] w3 := ((Arr_at _ _ [.int .i64 q.1, .int .i64 q.2.1, .int .i64 q.2.2.1] _ (by simp)).drew.alloc _).kept k3 (by omega)
    have B5_3 : Arr (w2.heap.size + 1) [.int .i64 0, .int .i64 0, .int .i64 0] w3 := (Arr_at _ _ [.int .i64 0, .int .i64 0, .int .i64 0] _ (by simp)).kept k3 (by omega)
    have z3 := B5_3.lies
    clear hHeld
    refine hK.out _ _ ⟨B3_3, B4_3⟩ (fun hHeld => ?_)
    clear hK K K2 BF_2 B0_2 B1_2 B2_2 B3_2 k3
    refine call_at (i := 9) (by kernel_rfl) rfl (fun K hK => ?_)
    go_simp
    refine (vScale_any b r3.2 (q.1, q.2.1, q.2.2.1) p.2.2.2 _ f3).mono ?_
    rintro e w4 ⟨rfl, f4, k4⟩
    generalize e4 : vScaleS r3.2 (q.1, q.2.1, q.2.2.1) p.2.2.2 = r4 at f4 ⊢
    have E4 : Hid _ := e4
    clear e4
    have K4 : Kept b w w4 := Kept.trans K3 k4
    have B0_4 : Arr w.heap.size [.int .i64 p.1, .int .i64 p.2.1, .int .i64 p.2.2.1, .int .i64 p.2.2.2] w4 := B0_3.kept k4 (by omega)
    have B1_4 : Arr (w.heap.size + 1) [.int .i64 q.1, .int .i64 q.2.1, .int .i64 q.2.2.1, .int .i64 q.2.2.2] w4 := B1_3.kept k4 (by omega)
    have B2_4 : Arr (w.heap.size + 1 + 1) [.int .i64 0, .int .i64 0, .int .i64 0, .int .i64 0] w4 := B2_3.kept k4 (by omega)
    have B3_4 : Arr w1.heap.size [.int .i64 p.1, .int .i64 p.2.1, .int .i64 p.2.2.1] w4 := B3_3.kept k4 (by omega)
    have B4_4 : Arr w2.heap.size [.int .i64 q.1, .int .i64 q.2.1, .int .i64 q.2.2.1] w4 := B4_3.kept k4 (by omega)
    have B5_4 : Arr (w2.heap.size + 1) [.int .i64 0, .int .i64 0, .int .i64 0] w4 := B5_3.kept k4 (by omega)
    have z4 := B5_4.lies
    clear hHeld
    refine hK.out _ _ ⟨B3_4, B4_4⟩ (fun hHeld => ?_)
    clear hK K K3 f3 B0_3 B1_3 B2_3 B3_3 B4_3 B5_3 k4
    refine call_at (i := 10) (by kernel_rfl) rfl (fun K hK => ?_)
    go_simp
    refine (vAdd_any b r4.2 r3.1 r4.1 _ f4).mono ?_
    rintro e w5 ⟨rfl, f5, k5⟩
    generalize e5 : vAddS r4.2 r3.1 r4.1 = r5 at f5 ⊢
    have E5 : Hid _ := e5
    clear e5
    have K5 : Kept b w w5 := Kept.trans K4 k5
    have B0_5 : Arr w.heap.size [.int .i64 p.1, .int .i64 p.2.1, .int .i64 p.2.2.1, .int .i64 p.2.2.2] w5 := B0_4.kept k5 (by omega)
    have B1_5 : Arr (w.heap.size + 1) [.int .i64 q.1, .int .i64 q.2.1, .int .i64 q.2.2.1, .int .i64 q.2.2.2] w5 := B1_4.kept k5 (by omega)
    have B2_5 : Arr (w.heap.size + 1 + 1) [.int .i64 0, .int .i64 0, .int .i64 0, .int .i64 0] w5 := B2_4.kept k5 (by omega)
    have B3_5 : Arr w1.heap.size [.int .i64 p.1, .int .i64 p.2.1, .int .i64 p.2.2.1] w5 := B3_4.kept k5 (by omega)
    have B4_5 : Arr w2.heap.size [.int .i64 q.1, .int .i64 q.2.1, .int .i64 q.2.2.1] w5 := B4_4.kept k5 (by omega)
    have B5_5 : Arr (w2.heap.size + 1) [.int .i64 0, .int .i64 0, .int .i64 0] w5 := B5_4.kept k5 (by omega)
    have z5 := B5_5.lies
    clear hHeld
    refine hK.out _ _ ⟨B3_5, B4_5⟩ (fun hHeld => ?_)
    clear hK K K4 f4 B0_4 B1_4 B2_4 B3_4 B4_4 B5_4 k5
    refine call_at (i := 14) (by kernel_rfl) rfl (fun K hK => ?_)
    go_simp
    refine (vCross_any b r5.2 (q.1, q.2.1, q.2.2.1) (p.1, p.2.1, p.2.2.1) _ f5).mono ?_
    rintro e w6 ⟨rfl, f6, k6⟩
    generalize e6 : vCrossS r5.2 (q.1, q.2.1, q.2.2.1) (p.1, p.2.1, p.2.2.1) = r6 at f6 ⊢
    have E6 : Hid _ := e6
    clear e6
    have K6 : Kept b w w6 := Kept.trans K5 k6
    have B0_6 : Arr w.heap.size [.int .i64 p.1, .int .i64 p.2.1, .int .i64 p.2.2.1, .int .i64 p.2.2.2] w6 := B0_5.kept k6 (by omega)
    have B1_6 : Arr (w.heap.size + 1) [.int .i64 q.1, .int .i64 q.2.1, .int .i64 q.2.2.1, .int .i64 q.2.2.2] w6 := B1_5.kept k6 (by omega)
    have B2_6 : Arr (w.heap.size + 1 + 1) [.int .i64 0, .int .i64 0, .int .i64 0, .int .i64 0] w6 := B2_5.kept k6 (by omega)
    have B3_6 : Arr w1.heap.size [.int .i64 p.1, .int .i64 p.2.1, .int .i64 p.2.2.1] w6 := B3_5.kept k6 (by omega)
    have B4_6 : Arr w2.heap.size [.int .i64 q.1, .int .i64 q.2.1, .int .i64 q.2.2.1] w6 := B4_5.kept k6 (by omega)
    have B5_6 : Arr (w2.heap.size + 1) [.int .i64 0, .int .i64 0, .int .i64 0] w6 := B5_5.kept k6 (by omega)
    have z6 := B5_6.lies
    clear hHeld
    refine hK.out _ _ ⟨B3_6, B4_6⟩ (fun hHeld => ?_)
    clear hK K K5 f5 B0_5 B1_5 B2_5 B3_5 B4_5 B5_5 k6
    refine call_at (i := 15) (by kernel_rfl) rfl (fun K hK => ?_)
    go_simp
    refine (vAdd_any b r6.2 r5.1 r6.1 _ f6).mono ?_
    rintro e w7 ⟨rfl, f7, k7⟩
    generalize e7 : vAddS r6.2 r5.1 r6.1 = r7 at f7 ⊢
    have E7 : Hid _ := e7
    clear e7
    have K7 : Kept b w w7 := Kept.trans K6 k7
    have B0_7 : Arr w.heap.size [.int .i64 p.1, .int .i64 p.2.1, .int .i64 p.2.2.1, .int .i64 p.2.2.2] w7 := B0_6.kept k7 (by omega)
    have B1_7 : Arr (w.heap.size + 1) [.int .i64 q.1, .int .i64 q.2.1, .int .i64 q.2.2.1, .int .i64 q.2.2.2] w7 := B1_6.kept k7 (by omega)
    have B2_7 : Arr (w.heap.size + 1 + 1) [.int .i64 0, .int .i64 0, .int .i64 0, .int .i64 0] w7 := B2_6.kept k7 (by omega)
    have B3_7 : Arr w1.heap.size [.int .i64 p.1, .int .i64 p.2.1, .int .i64 p.2.2.1] w7 := B3_6.kept k7 (by omega)
    have B4_7 : Arr w2.heap.size [.int .i64 q.1, .int .i64 q.2.1, .int .i64 q.2.2.1] w7 := B4_6.kept k7 (by omega)
    have B5_7 : Arr (w2.heap.size + 1) [.int .i64 0, .int .i64 0, .int .i64 0] w7 := B5_6.kept k7 (by omega)
    have z7 := B5_7.lies
    clear hHeld
    refine hK.out _ _ ⟨B3_7, B4_7⟩ (fun hHeld => ?_)
    clear hK K K6 f6 B0_6 B1_6 B2_6 B3_6 B4_6 B5_6 k7
    refine call_at (i := 17) (by kernel_rfl) rfl (fun K hK => ?_)
    have c5_B5_0 : w7.cell? ⟨w2.heap.size + 1, 0, none⟩ = some (.int .i64 0) := B5_7.c 0 (of_decide_eq_true rfl)
    have c5_B5_1 : w7.cell? ⟨w2.heap.size + 1, 1, none⟩ = some (.int .i64 0) := B5_7.c 1 (of_decide_eq_true rfl)
    have c5_B5_2 : w7.cell? ⟨w2.heap.size + 1, 2, none⟩ = some (.int .i64 0) := B5_7.c 2 (of_decide_eq_true rfl)
    have g5_B5_0 := B5_7.f 0 (of_decide_eq_true rfl)
    have g5_B5_1 := B5_7.f 1 (of_decide_eq_true rfl)
    have g5_B5_2 := B5_7.f 2 (of_decide_eq_true rfl)
    go_simp
    clear hHeld
    refine hK.out _ _ ⟨(((B3_7.new _ _ (by omega) _).new _ _ (by omega) _).new _ _ (by omega) _), (((B4_7.new _ _ (by omega) _).new _ _ (by omega) _).new _ _ (by omega) _)⟩ (fun hHeld => ?_)
    clear hK K c5_B5_0 c5_B5_1 c5_B5_2 g5_B5_0 g5_B5_1 g5_B5_2
    refine wpAnyH_done (by kernel_rfl) ?_ _
    clear hHeld
    exact cont1 _ _ _ _ _ _ _ _ _ _ _ _ _ _ _ _ _ _ _ _ _ _ _ _ _ _ _ (w2.heap.size + 1) r3 r4 r5 r6 r7 E3 E4 E5 E6 E7 (((K7.new _ _ (by omega) _).new _ _ (by omega) _).new _ _ (by omega) _) (((f7.new _ _ (by omega) _).new _ _ (by omega) _).new _ _ (by omega) _) (((B0_7.new _ _ (by omega) _).new _ _ (by omega) _).new _ _ (by omega) _) (((B1_7.new _ _ (by omega) _).new _ _ (by omega) _).new _ _ (by omega) _) (((B2_7.new _ _ (by omega) _).new _ _ (by omega) _).new _ _ (by omega) _) (((B3_7.new _ _ (by omega) _).new _ _ (by omega) _).new _ _ (by omega) _) (((B4_7.new _ _ (by omega) _).new _ _ (by omega) _).new _ _ (by omega) _) (((B5_7.put 0 (of_decide_eq_true rfl) (.int .i64 r7.1.1) [.int .i64 r7.1.1, .int .i64 0, .int .i64 0] rfl).put 1 (of_decide_eq_true rfl) (.int .i64 r7.1.2.1) [.int .i64 r7.1.1, .int .i64 r7.1.2.1, .int .i64 0] rfl).put 2 (of_decide_eq_true rfl) (.int .i64 r7.1.2.2) [.int .i64 r7.1.1, .int .i64 r7.1.2.1, .int .i64 r7.1.2.2] rfl) (by omega) (by omega) (by omega) (by omega) (by omega) (by omega) (by omega)
end Go.Proofs.Ytkeijfbpkdelpaa
