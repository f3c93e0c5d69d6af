/-
  Walks of package alidaderef04, for the seat Yteooceapkkdcpaa. (Made by mkref04.py.)
-/
import Derived.Test.YteooceapkkdcpaaXBase
import Derived.Test.YteooceapkkdcpaaUCode
import Derived.Test.YteooceapkkdcpaaUCross
import Derived.Handy
import Derived.Deep.RegionHeld3
namespace Go.Proofs.Yteooceapkkdcpaa
open Go.RowKit

set_option maxRecDepth 100000 in
set_option maxHeartbeats 2000000 in
theorem xTurn_any (b : Nat) (bad : Bool) (q : V4) (v : V3) (w : World) (hw : Fl b bad w) :
    Calls Try.prog 17 #[.pointer (some ⟨b, 0, none⟩), .agg #[.int .i64 q.1, .int .i64 q.2.1, .int .i64 q.2.2.1, .int .i64 q.2.2.2], .agg #[.int .i64 v.1, .int .i64 v.2.1, .int .i64 v.2.2]] w fun e w' => e = .returned (.agg #[.int .i64 ((xTurnS bad q v).1.1), .int .i64 ((xTurnS bad q v).1.2.1), .int .i64 ((xTurnS bad q v).1.2.2)]) ∧ Fl b (xTurnS bad q v).2 w' ∧ Kept b w w' := by
  have hl := hw.lies
  go_enter Try.func17, Try.ntmps17
  go_wp2_with fail
  refine (split_any q _).mono ?_
  rintro e w1 ⟨rfl, k1⟩
  have K1 : Kept b w w1 := Kept.trans ((((Kept.refl b w).al _).al _).al _) (Kept.of_below k1)
  have BF_1 : Fl b bad w1 := (((hw.alloc _).alloc _).alloc _).below k1
  have B0_1 : Arr w.heap.size [.int .i64 q.1, .int .i64 q.2.1, .int .i64 q.2.2.1, .int .i64 q.2.2.2] w1 := (((Arr_at _ _ [.int .i64 q.1, .int .i64 q.2.1, .int .i64 q.2.2.1, .int .i64 q.2.2.2] _ (by simp)).alloc _).alloc _).below k1
  have B1_1 : Arr (w.heap.size + 1) [.int .i64 v.1, .int .i64 v.2.1, .int .i64 v.2.2] w1 := ((Arr_at _ _ [.int .i64 v.1, .int .i64 v.2.1, .int .i64 v.2.2] _ (by simp)).alloc _).below k1
  have B2_1 : Arr (w.heap.size + 1 + 1) [.int .i64 0, .int .i64 0, .int .i64 0] w1 := (Arr_at _ _ [.int .i64 0, .int .i64 0, .int .i64 0] _ (by simp)).below k1
  have z1 := B2_1.lies
  clear k1
  have c2_B1_0 : w1.cell? ⟨w.heap.size + 1, 0, none⟩ = some (.int .i64 v.1) := B1_1.c 0 (of_decide_eq_true rfl)
  have c2_B1_1 : w1.cell? ⟨w.heap.size + 1, 1, none⟩ = some (.int .i64 v.2.1) := B1_1.c 1 (of_decide_eq_true rfl)
  have c2_B1_2 : w1.cell? ⟨w.heap.size + 1, 2, none⟩ = some (.int .i64 v.2.2) := B1_1.c 2 (of_decide_eq_true rfl)
  have l2_B1 := B1_1.lies
  go_wp2_with fail
  refine (uCross_any b bad (q.1, q.2.1, q.2.2.1) v _ (BF_1.alloc _)).mono ?_
  rintro e w2 ⟨rfl, f2, k2⟩
  generalize e2 : uCrossS bad (q.1, q.2.1, q.2.2.1) v = r2 at f2 ⊢
  have E2 : Hid _ := e2
  clear e2
  have K2 : Kept b w w2 := Kept.trans (K1.al _) k2
  have B0_2 : Arr w.heap.size [.int .i64 q.1, .int .i64 q.2.1, .int .i64 q.2.2.1, .int .i64 q.2.2.2] w2 := (B0_1.alloc _).kept k2 (by omega)
  have B1_2 : Arr (w.heap.size + 1) [.int .i64 v.1, .int .i64 v.2.1, .int .i64 v.2.2] w2 := (B1_1.alloc _).kept k2 (by omega)
  have B2_2 : Arr (w.heap.size + 1 + 1) [.int .i64 0, .int .i64 0, .int .i64 0] w2 := (B2_1.alloc _).kept k2 (by omega)
  have B3_2 : Arr w1.heap.size [.int .i64 q.1, .int .i64 q.2.1, .int .i64 q.2.2.1] w2 := (Arr_at _ _ [.int .i64 q.1, .int .i64 q.2.1, .int .i64 q.2.2.1] _ (by simp)).kept k2 (by omega)
  have z2 := B3_2.lies
  clear c2_B1_0 c2_B1_1 c2_B1_2 l2_B1 K1 BF_1 B0_1 B1_1 B2_1 k2
  go_wp2_with fail
  refine (uScale_any b r2.2 r2.1 2199023255552 _ f2).mono ?_
  rintro e w3 ⟨rfl, f3, k3⟩
  generalize e3 : uScaleS r2.2 r2.1 2199023255552 = r3 at f3 ⊢
  have E3 : Hid _ := e3
  clear e3
  have K3 : Kept b w w3 := Kept.trans K2 k3
  have B0_3 : Arr w.heap.size [.int .i64 q.1, .int .i64 q.2.1, .int .i64 q.2.2.1, .int .i64 q.2.2.2] w3 := B0_2.kept k3 (by omega)
  have B1_3 : Arr (w.heap.size + 1) [.int .i64 v.1, .int .i64 v.2.1, .int .i64 v.2.2] w3 := B1_2.kept k3 (by omega)
  have B2_3 : Arr (w.heap.size + 1 + 1) [.int .i64 0, .int .i64 0, .int .i64 0] w3 := B2_2.kept k3 (by omega)
  have B3_3 : Arr w1.heap.size [.int .i64 q.1, .int .i64 q.2.1, .int .i64 q.2.2.1] w3 := B3_2.kept k3 (by omega)
  have z3 := B3_3.lies
  clear K2 f2 B0_2 B1_2 B2_2 B3_2 k3
  go_wp2_with fail
  rename_i K0 aK0
  have cont2 : ∀ (W2 : World) (t2_11 t2_12 t2_13 t2_14 t2_15 t2_16 t2_17 t2_18 t2_19 t2_20 t2_21 t2_22 t2_23 t2_24 t2_25 t2_26 t2_27 t2_28 : Value) (x2_0 : Nat) (r4 : _) (r5 : _) , Hid (uScaleS r3.2 r3.1 q.2.2.2 = r4) → Hid (uSubS r4.2 v r4.1 = r5) → Kept b w W2 → Fl b r5.2 W2 → Arr w.heap.size [.int .i64 q.1, .int .i64 q.2.1, .int .i64 q.2.2.1, .int .i64 q.2.2.2] W2 → Arr (w.heap.size + 1) [.int .i64 v.1, .int .i64 v.2.1, .int .i64 v.2.2] W2 → Arr (w.heap.size + 1 + 1) [.int .i64 0, .int .i64 0, .int .i64 0] W2 → Arr w1.heap.size [.int .i64 q.1, .int .i64 q.2.1, .int .i64 q.2.2.1] W2 → Arr w3.heap.size [.int .i64 r3.1.1, .int .i64 r3.1.2.1, .int .i64 r3.1.2.2] W2 → Arr x2_0 [.int .i64 r5.1.1, .int .i64 r5.1.2.1, .int .i64 r5.1.2.2] W2 → w.heap.size ≤ x2_0 → b < x2_0 → w.heap.size < x2_0 → w.heap.size + 1 < x2_0 → w.heap.size + 1 + 1 < x2_0 → w1.heap.size < x2_0 → w3.heap.size < x2_0 → K0 { tmps := #[.pointer (some ⟨b, 0, none⟩), .agg #[.int .i64 q.1, .int .i64 q.2.1, .int .i64 q.2.2.1, .int .i64 q.2.2.2], .agg #[.int .i64 v.1, .int .i64 v.2.1, .int .i64 v.2.2], undef, .pointer (some ⟨w.heap.size, 0, none⟩), .pointer (some ⟨w.heap.size + 1, 0, none⟩), .pointer (some ⟨w.heap.size + 1 + 1, 0, none⟩), .pointer (some ⟨w1.heap.size, 0, none⟩), .int .i64 q.2.2.2, .pointer (some ⟨w3.heap.size, 0, none⟩), .pointer (some ⟨x2_0, 0, none⟩), t2_11, t2_12, t2_13, t2_14, t2_15, t2_16, t2_17, t2_18, t2_19, t2_20, t2_21, t2_22, t2_23, t2_24, t2_25, t2_26, t2_27, t2_28, undef, undef, undef, undef, undef, undef, undef], defers := [] } W2 := by
    intro W2 t2_11 t2_12 t2_13 t2_14 t2_15 t2_16 t2_17 t2_18 t2_19 t2_20 t2_21 t2_22 t2_23 t2_24 t2_25 t2_26 t2_27 t2_28 x2_0 r4 r5 E4 E5 KC2 BF_c2 B0_c2 B1_c2 B2_c2 B3_c2 B4_c2 B5_c2 s2_0 s2_1 s2_2 s2_3 s2_4 s2_5 s2_6
    apply aK0
    go_wp2_with fail
    refine wp_region_held_drew (S := fun w' => Arr x2_0 [.int .i64 r5.1.1, .int .i64 r5.1.2.1, .int .i64 r5.1.2.2] w' ∧ Arr w1.heap.size [.int .i64 q.1, .int .i64 q.2.1, .int .i64 q.2.2.1] w' ∧ Arr w3.heap.size [.int .i64 r3.1.1, .int .i64 r3.1.2.1, .int .i64 r3.1.2.2] w') (by kernel_rfl) ⟨B5_c2.drew, B3_c2.drew, B4_c2.drew⟩ (fun hHeld => ?_)
    refine take_at (i := 0) (v := ?v35) rfl (by kernel_rfl) (by kernel_rfl) (by kernel_rfl) (fun _ _ _ h => h) (Or.inl ⟨by rfl, ?y35⟩) hHeld ?t35
    case y35 => (intro wx hSw; go_simp <;> with_reducible rfl)
    simp only [Act.put, List.setIfInBounds_toArray, List.set_cons_zero, List.set_cons_succ]
    refine take_at (i := 1) (v := ?v36) rfl (by kernel_rfl) (by kernel_rfl) (by kernel_rfl) (fun _ _ _ h => h) (Or.inl ⟨by rfl, ?y36⟩) hHeld ?t36
    case y36 => (intro wx hSw; have hc0 : wx.cell? ⟨x2_0, 0, none⟩ = some (.int .i64 r5.1.1) := hSw.1.c 0 (of_decide_eq_true rfl); have hc1 : wx.cell? ⟨x2_0, 1, none⟩ = some (.int .i64 r5.1.2.1) := hSw.1.c 1 (of_decide_eq_true rfl); have hc2 : wx.cell? ⟨x2_0, 2, none⟩ = some (.int .i64 r5.1.2.2) := hSw.1.c 2 (of_decide_eq_true rfl); go_simp <;> with_reducible rfl)
    simp only [Act.put, List.setIfInBounds_toArray, List.set_cons_zero, List.set_cons_succ]
    refine take_at (i := 2) (v := ?v37) rfl (by kernel_rfl) (by kernel_rfl) (by kernel_rfl) (fun _ _ _ h => h) (Or.inl ⟨by rfl, ?y37⟩) hHeld ?t37
    case y37 => (intro wx hSw; go_simp <;> with_reducible rfl)
    simp only [Act.put, List.setIfInBounds_toArray, List.set_cons_zero, List.set_cons_succ]
    refine take_at (i := 3) (v := ?v38) rfl (by kernel_rfl) (by kernel_rfl) (by kernel_rfl) (fun _ _ _ h => h) (Or.inl ⟨by rfl, ?y38⟩) hHeld ?t38
    case y38 => (intro wx hSw; have hc0 : wx.cell? ⟨w1.heap.size, 0, none⟩ = some (.int .i64 q.1) := hSw.2.1.c 0 (of_decide_eq_true rfl); have hc1 : wx.cell? ⟨w1.heap.size, 1, none⟩ = some (.int .i64 q.2.1) := hSw.2.1.c 1 (of_decide_eq_true rfl); have hc2 : wx.cell? ⟨w1.heap.size, 2, none⟩ = some (.int .i64 q.2.2.1) := hSw.2.1.c 2 (of_decide_eq_true rfl); go_simp <;> with_reducible rfl)
    simp only [Act.put, List.setIfInBounds_toArray, List.set_cons_zero, List.set_cons_succ]
    refine take_at (i := 4) (v := ?v39) rfl (by kernel_rfl) (by kernel_rfl) (by kernel_rfl) (fun _ _ _ h => h) (Or.inl ⟨by rfl, ?y39⟩) hHeld ?t39
    case y39 => (intro wx hSw; have hc0 : wx.cell? ⟨w3.heap.size, 0, none⟩ = some (.int .i64 r3.1.1) := hSw.2.2.c 0 (of_decide_eq_true rfl); have hc1 : wx.cell? ⟨w3.heap.size, 1, none⟩ = some (.int .i64 r3.1.2.1) := hSw.2.2.c 1 (of_decide_eq_true rfl); have hc2 : wx.cell? ⟨w3.heap.size, 2, none⟩ = some (.int .i64 r3.1.2.2) := hSw.2.2.c 2 (of_decide_eq_true rfl); go_simp <;> with_reducible rfl)
    simp only [Act.put, List.setIfInBounds_toArray, List.set_cons_zero, List.set_cons_succ]
    refine call_at (i := 5) (by kernel_rfl) rfl (fun K hK => ?_)
    go_simp
    refine (uCross_any b r5.2 (q.1, q.2.1, q.2.2.1) r3.1 _ BF_c2.drew).mono ?_
    rintro e w6 ⟨rfl, f6, k6⟩
    generalize e6 : uCrossS r5.2 (q.1, q.2.1, q.2.2.1) r3.1 = r6 at f6 ⊢
    have E6 : Hid _ := e6
    clear e6
    have K6 : Kept b w w6 := Kept.trans KC2.drew k6
    have B0_6 : Arr w.heap.size [.int .i64 q.1, .int .i64 q.2.1, .int .i64 q.2.2.1, .int .i64 q.2.2.2] w6 := B0_c2.drew.kept k6 (by omega)
    have B1_6 : Arr (w.heap.size + 1) [.int .i64 v.1, .int .i64 v.2.1, .int .i64 v.2.2] w6 := B1_c2.drew.kept k6 (by omega)
    have B2_6 : Arr (w.heap.size + 1 + 1) [.int .i64 0, .int .i64 0, .int .i64 0] w6 := B2_c2.drew.kept k6 (by omega)
    have B3_6 : Arr w1.heap.size [.int .i64 q.1, .int .i64 q.2.1, .int .i64 q.2.2.1] w6 := B3_c2.drew.kept k6 (by omega)
    have B4_6 : Arr w3.heap.size [.int .i64 r3.1.1, .int .i64 r3.1.2.1, .int .i64 r3.1.2.2] w6 := B4_c2.drew.kept k6 (by omega)
    have B5_6 : Arr x2_0 [.int .i64 r5.1.1, .int .i64 r5.1.2.1, .int .i64 r5.1.2.2] w6 := B5_c2.drew.kept k6 (by omega)
    have z6 := B5_6.lies
    clear hHeld
    refine hK.out _ _ ⟨B5_6, B3_6, B4_6⟩ (fun hHeld => ?_)
    clear hK K BF_c2 B0_c2 B1_c2 B2_c2 B3_c2 B4_c2 B5_c2 k6
    refine call_at (i := 6) (by kernel_rfl) rfl (fun K hK => ?_)
    go_simp
    refine (uAdd_any b r6.2 r5.1 r6.1 _ f6).mono ?_
    rintro e w7 ⟨rfl, f7, k7⟩
    generalize e7 : uAddS r6.2 r5.1 r6.1 = r7 at f7 ⊢
    have E7 : Hid _ := e7
    clear e7
    have K7 : Kept b w w7 := Kept.trans K6 k7
    have B0_7 : Arr w.heap.size [.int .i64 q.1, .int .i64 q.2.1, .int .i64 q.2.2.1, .int .i64 q.2.2.2] w7 := B0_6.kept k7 (by omega)
    have B1_7 : Arr (w.heap.size + 1) [.int .i64 v.1, .int .i64 v.2.1, .int .i64 v.2.2] w7 := B1_6.kept k7 (by omega)
    have B2_7 : Arr (w.heap.size + 1 + 1) [.int .i64 0, .int .i64 0, .int .i64 0] w7 := B2_6.kept k7 (by omega)
    have B3_7 : Arr w1.heap.size [.int .i64 q.1, .int .i64 q.2.1, .int .i64 q.2.2.1] w7 := B3_6.kept k7 (by omega)
    have B4_7 : Arr w3.heap.size [.int .i64 r3.1.1, .int .i64 r3.1.2.1, .int .i64 r3.1.2.2] w7 := B4_6.kept k7 (by omega)
    have B5_7 : Arr x2_0 [.int .i64 r5.1.1, .int .i64 r5.1.2.1, .int .i64 r5.1.2.2] w7 := B5_6.kept k7 (by omega)
    have z7 := B5_7.lies
    clear hHeld
    refine hK.out _ _ ⟨B5_7, B3_7, B4_7⟩ (fun hHeld => ?_)
    clear hK K K6 f6 B0_6 B1_6 B2_6 B3_6 B4_6 B5_6 k7
    refine call_at (i := 7) (by kernel_rfl) rfl (fun K hK => ?_)
    have c6_B2_0 : w7.cell? ⟨w.heap.size + 1 + 1, 0, none⟩ = some (.int .i64 0) := B2_7.c 0 (of_decide_eq_true rfl)
    have c6_B2_1 : w7.cell? ⟨w.heap.size + 1 + 1, 1, none⟩ = some (.int .i64 0) := B2_7.c 1 (of_decide_eq_true rfl)
    have c6_B2_2 : w7.cell? ⟨w.heap.size + 1 + 1, 2, none⟩ = some (.int .i64 0) := B2_7.c 2 (of_decide_eq_true rfl)
    have g6_B2_0 := B2_7.f 0 (of_decide_eq_true rfl)
    have g6_B2_1 := B2_7.f 1 (of_decide_eq_true rfl)
    have g6_B2_2 := B2_7.f 2 (of_decide_eq_true rfl)
    go_simp
    clear hHeld
    refine hK.out _ _ ⟨(((B5_7.new (w.heap.size + 1 + 1) 0 (by omega) (.int .i64 r7.1.1)).new (w.heap.size + 1 + 1) 1 (by omega) (.int .i64 r7.1.2.1)).new (w.heap.size + 1 + 1) 2 (by omega) (.int .i64 r7.1.2.2)), (((B3_7.new (w.heap.size + 1 + 1) 0 (by omega) (.int .i64 r7.1.1)).new (w.heap.size + 1 + 1) 1 (by omega) (.int .i64 r7.1.2.1)).new (w.heap.size + 1 + 1) 2 (by omega) (.int .i64 r7.1.2.2)), (((B4_7.new (w.heap.size + 1 + 1) 0 (by omega) (.int .i64 r7.1.1)).new (w.heap.size + 1 + 1) 1 (by omega) (.int .i64 r7.1.2.1)).new (w.heap.size + 1 + 1) 2 (by omega) (.int .i64 r7.1.2.2))⟩ (fun hHeld => ?_)
    clear hK K c6_B2_0 c6_B2_1 c6_B2_2 g6_B2_0 g6_B2_1 g6_B2_2
    refine wpAnyH_done (by kernel_rfl) ?_ _
    clear hHeld
    go_wp2
    have d0 := Arr.c (B2_7.put 0 (of_decide_eq_true rfl) (.int .i64 r7.1.1) [.int .i64 r7.1.1, .int .i64 0, .int .i64 0] rfl) 0 (of_decide_eq_true rfl)
    have d1 := Arr.c ((B2_7.put 0 (of_decide_eq_true rfl) (.int .i64 r7.1.1) [.int .i64 r7.1.1, .int .i64 0, .int .i64 0] rfl).put 1 (of_decide_eq_true rfl) (.int .i64 r7.1.2.1) [.int .i64 r7.1.1, .int .i64 r7.1.2.1, .int .i64 0] rfl) 1 (of_decide_eq_true rfl)
    have d2 := Arr.c (((B2_7.put 0 (of_decide_eq_true rfl) (.int .i64 r7.1.1) [.int .i64 r7.1.1, .int .i64 0, .int .i64 0] rfl).put 1 (of_decide_eq_true rfl) (.int .i64 r7.1.2.1) [.int .i64 r7.1.1, .int .i64 r7.1.2.1, .int .i64 0] rfl).put 2 (of_decide_eq_true rfl) (.int .i64 r7.1.2.2) [.int .i64 r7.1.1, .int .i64 r7.1.2.1, .int .i64 r7.1.2.2] rfl) 2 (of_decide_eq_true rfl)
    refine bodyPost_ret (v := .agg #[.int .i64 r7.1.1, .int .i64 r7.1.2.1, .int .i64 r7.1.2.2]) (by simp [results, Try.results17, go_sem, d0, d1, d2]) rfl ?_
    have hs : xTurnS bad q v = (r7.1, r7.2) := by unfold xTurnS; simp only [E2.out, E3.out, E4.out, E5.out, E6.out, E7.out]
    rw [hs]
    exact ⟨rfl, (((f7.new (w.heap.size + 1 + 1) 0 (by omega) (.int .i64 r7.1.1)).new (w.heap.size + 1 + 1) 1 (by omega) (.int .i64 r7.1.2.1)).new (w.heap.size + 1 + 1) 2 (by omega) (.int .i64 r7.1.2.2)), (((K7.new _ _ (by omega) _).new _ _ (by omega) _).new _ _ (by omega) _)⟩
  refine wp_region_held_drew (S := fun w' => Arr (w.heap.size + 1) [.int .i64 v.1, .int .i64 v.2.1, .int .i64 v.2.2] w' ∧ Arr w3.heap.size [.int .i64 r3.1.1, .int .i64 r3.1.2.1, .int .i64 r3.1.2.2] w') (by kernel_rfl) ⟨(B1_3.alloc _).drew, (Arr_at _ _ [.int .i64 r3.1.1, .int .i64 r3.1.2.1, .int .i64 r3.1.2.2] _ (by simp)).drew⟩ (fun hHeld => ?_)
  refine take_at (i := 0) (v := ?v40) rfl (by kernel_rfl) (by kernel_rfl) (by kernel_rfl) (fun _ _ _ h => h) (Or.inl ⟨by rfl, ?y40⟩) hHeld ?t40
  case y40 => (intro wx hSw; go_simp <;> with_reducible rfl)
  simp only [Act.put, List.setIfInBounds_toArray, List.set_cons_zero, List.set_cons_succ]
  refine take_at (i := 1) (v := ?v41) rfl (by kernel_rfl) (by kernel_rfl) (by kernel_rfl) (fun _ _ _ h => h) (Or.inl ⟨by rfl, ?y41⟩) hHeld ?t41
  case y41 => (intro wx hSw; have hc0 : wx.cell? ⟨w.heap.size + 1, 0, none⟩ = some (.int .i64 v.1) := hSw.1.c 0 (of_decide_eq_true rfl); have hc1 : wx.cell? ⟨w.heap.size + 1, 1, none⟩ = some (.int .i64 v.2.1) := hSw.1.c 1 (of_decide_eq_true rfl); have hc2 : wx.cell? ⟨w.heap.size + 1, 2, none⟩ = some (.int .i64 v.2.2) := hSw.1.c 2 (of_decide_eq_true rfl); go_simp <;> with_reducible rfl)
  simp only [Act.put, List.setIfInBounds_toArray, List.set_cons_zero, List.set_cons_succ]
  refine take_at (i := 2) (v := ?v42) rfl (by kernel_rfl) (by kernel_rfl) (by kernel_rfl) (fun _ _ _ h => h) (Or.inl ⟨by rfl, ?y42⟩) hHeld ?t42
  case y42 => (intro wx hSw; go_simp <;> with_reducible rfl)
  simp only [Act.put, List.setIfInBounds_toArray, List.set_cons_zero, List.set_cons_succ]
  refine take_at (i := 3) (v := ?v43) rfl (by kernel_rfl) (by kernel_rfl) (by kernel_rfl) (fun _ _ _ h => h) (Or.inl ⟨by rfl, ?y43⟩) hHeld ?t43
  case y43 => (intro wx hSw; have hc0 : wx.cell? ⟨w3.heap.size, 0, none⟩ = some (.int .i64 r3.1.1) := hSw.2.c 0 (of_decide_eq_true rfl); have hc1 : wx.cell? ⟨w3.heap.size, 1, none⟩ = some (.int .i64 r3.1.2.1) := hSw.2.c 1 (of_decide_eq_true rfl); have hc2 : wx.cell? ⟨w3.heap.size, 2, none⟩ = some (.int .i64 r3.1.2.2) := hSw.2.c 2 (of_decide_eq_true rfl); go_simp <;> with_reducible rfl)
  simp only [Act.put, List.setIfInBounds_toArray, List.set_cons_zero, List.set_cons_succ]
  refine take_at (i := 4) (v := ?v44) rfl (by kernel_rfl) (by kernel_rfl) (by kernel_rfl) (fun _ _ _ h => h) (Or.inl ⟨by rfl, ?y44⟩) hHeld ?t44
  case y44 => (intro wx hSw; go_simp <;> with_reducible rfl)
  simp only [Act.put, List.setIfInBounds_toArray, List.set_cons_zero, List.set_cons_succ]
  refine call_at2 (i0 := 5) (i1 := 7) (by kernel_rfl) rfl rfl (fun K hK => ?_) (fun K hK => ?_)
  · go_simp
    refine (uScale_any b r3.2 r3.1 q.2.2.2 _ (f3.alloc _).drew).mono ?_
    rintro e w4 ⟨rfl, f4, k4⟩
    generalize e4 : uScaleS r3.2 r3.1 q.2.2.2 = r4 at f4 ⊢
    have E4 : Hid _ := e4
    clear e4
    have K4 : Kept b w w4 := Kept.trans (K3.al _).drew k4
    have B0_4 : Arr w.heap.size [.int .i64 q.1, .int .i64 q.2.1, .int .i64 q.2.2.1, .int .i64 q.2.2.2] w4 := (B0_3.alloc _).drew.kept k4 (by omega)
    have B1_4 : Arr (w.heap.size + 1) [.int .i64 v.1, .int .i64 v.2.1, .int .i64 v.2.2] w4 := (B1_3.alloc _).drew.kept k4 (by omega)
    have B2_4 : Arr (w.heap.size + 1 + 1) [.int .i64 0, .int .i64 0, .int .i64 0] w4 := (B2_3.alloc _).drew.kept k4 (by omega)
    have B3_4 : Arr w1.heap.size [.int .i64 q.1, .int .i64 q.2.1, .int .i64 q.2.2.1] w4 := (B3_3.alloc _).drew.kept k4 (by omega)
    have B4_4 : Arr w3.heap.size [.int .i64 r3.1.1, .int .i64 r3.1.2.1, .int .i64 r3.1.2.2] w4 := (Arr_at _ _ [.int .i64 r3.1.1, .int .i64 r3.1.2.1, .int .i64 r3.1.2.2] _ (by simp)).drew.kept k4 (by omega)
    have z4 := B4_4.lies
    clear hHeld
    refine hK.out _ _ ⟨B1_4, B4_4⟩ (fun hHeld => ?_)
    clear hK K K3 f3 B0_3 B1_3 B2_3 B3_3 k4
    refine call_at2 (i0 := 6) (i1 := 7) (by kernel_rfl) rfl rfl (fun K hK => ?_) (fun K hK => ?_)
    · go_simp
      refine (uSub_any b r4.2 v r4.1 _ f4).mono ?_
      rintro e w5 ⟨rfl, f5, k5⟩
      generalize e5 : uSubS r4.2 v r4.1 = r5 at f5 ⊢
      have E5 : Hid _ := e5
      clear e5
      have K5 : Kept b w w5 := Kept.trans K4 k5
      have B0_5 : Arr w.heap.size [.int .i64 q.1, .int .i64 q.2.1, .int .i64 q.2.2.1, .int .i64 q.2.2.2] w5 := B0_4.kept k5 (by omega)
      have B1_5 : Arr (w.heap.size + 1) [.int .i64 v.1, .int .i64 v.2.1, .int .i64 v.2.2] w5 := B1_4.kept k5 (by omega)
      have B2_5 : Arr (w.heap.size + 1 + 1) [.int .i64 0, .int .i64 0, .int .i64 0] w5 := B2_4.kept k5 (by omega)
      have B3_5 : Arr w1.heap.size [.int .i64 q.1, .int .i64 q.2.1, .int .i64 q.2.2.1] w5 := B3_4.kept k5 (by omega)
      have B4_5 : Arr w3.heap.size [.int .i64 r3.1.1, .int .i64 r3.1.2.1, .int .i64 r3.1.2.2] w5 := B4_4.kept k5 (by omega)
      have z5 := B4_5.lies
      clear hHeld
      refine hK.out _ _ ⟨B1_5, B4_5⟩ (fun hHeld => ?_)
      clear hK K K4 f4 B0_4 B1_4 B2_4 B3_4 B4_4 k5
      refine call_at (i := 7) (by kernel_rfl) rfl (fun K hK => ?_)
      go_simp
      clear hHeld
      refine hK.out _ _ ⟨(B1_5.alloc _), (B4_5.alloc _)⟩ (fun hHeld => ?_)
      clear hK K
      refine call_at (i := 8) (by kernel_rfl) rfl (fun K hK => ?_)
      go_simp
      clear hHeld
      refine hK.out _ _ ⟨(B1_5.alloc _), (B4_5.alloc _)⟩ (fun hHeld => ?_)
      clear hK K
      refine wpAnyH_done (by kernel_rfl) ?_ _
      clear hHeld
      exact cont2 _ _ _ _ _ _ _ _ _ _ _ _ _ _ _ _ _ _ _ w5.heap.size r4 r5 E4 E5 (K5.al _) (f5.alloc _) (B0_5.alloc _) (B1_5.alloc _) (B2_5.alloc _) (B3_5.alloc _) (B4_5.alloc _) (Arr_at _ _ [.int .i64 r5.1.1, .int .i64 r5.1.2.1, .int .i64 r5.1.2.2] _ (by simp)) (by omega) (by omega) (by omega) (by omega) (by omega) (by omega) (by omega)
    · go_simp
      clear hHeld
      refine hK.out _ _ ⟨(B1_4.alloc _), (B4_4.alloc _)⟩ (fun hHeld => ?_)
      clear hK K
      refine call_at (i := 6) (by kernel_rfl) rfl (fun K hK => ?_)
      go_simp
      refine (uSub_any b r4.2 v r4.1 _ (f4.alloc _)).mono ?_
      rintro e w5 ⟨rfl, f5, k5⟩
      generalize e5 : uSubS r4.2 v r4.1 = r5 at f5 ⊢
      have E5 : Hid _ := e5
      clear e5
      have K5 : Kept b w w5 := Kept.trans (K4.al _) k5
      have B0_5 : Arr w.heap.size [.int .i64 q.1, .int .i64 q.2.1, .int .i64 q.2.2.1, .int .i64 q.2.2.2] w5 := (B0_4.alloc _).kept k5 (by omega)
      have B1_5 : Arr (w.heap.size + 1) [.int .i64 v.1, .int .i64 v.2.1, .int .i64 v.2.2] w5 := (B1_4.alloc _).kept k5 (by omega)
      have B2_5 : Arr (w.heap.size + 1 + 1) [.int .i64 0, .int .i64 0, .int .i64 0] w5 := (B2_4.alloc _).kept k5 (by omega)
      have B3_5 : Arr w1.heap.size [.int .i64 q.1, .int .i64 q.2.1, .int .i64 q.2.2.1] w5 := (B3_4.alloc _).kept k5 (by omega)
      have B4_5 : Arr w3.heap.size [.int .i64 r3.1.1, .int .i64 r3.1.2.1, .int .i64 r3.1.2.2] w5 := (B4_4.alloc _).kept k5 (by omega)
      have B5_5 : Arr w4.heap.size [.int .i64 0, .int .i64 0, .int .i64 0] w5 := (Arr_at _ _ [.int .i64 0, .int .i64 0, .int .i64 0] _ (by simp)).kept k5 (by omega)
      have z5 := B5_5.lies
      clear hHeld
      refine hK.out _ _ ⟨B1_5, B4_5⟩ (fun hHeld => ?_)
      clear hK K K4 f4 B0_4 B1_4 B2_4 B3_4 B4_4 k5
      refine call_at (i := 8) (by kernel_rfl) rfl (fun K hK => ?_)
      have c6_B5_0 : w5.cell? ⟨w4.heap.size, 0, none⟩ = some (.int .i64 0) := B5_5.c 0 (of_decide_eq_true rfl)
      have c6_B5_1 : w5.cell? ⟨w4.heap.size, 1, none⟩ = some (.int .i64 0) := B5_5.c 1 (of_decide_eq_true rfl)
      have c6_B5_2 : w5.cell? ⟨w4.heap.size, 2, none⟩ = some (.int .i64 0) := B5_5.c 2 (of_decide_eq_true rfl)
      have g6_B5_0 := B5_5.f 0 (of_decide_eq_true rfl)
      have g6_B5_1 := B5_5.f 1 (of_decide_eq_true rfl)
      have g6_B5_2 := B5_5.f 2 (of_decide_eq_true rfl)
      go_simp
      clear hHeld
      refine hK.out _ _ ⟨(((B1_5.new w4.heap.size 0 (by omega) (.int .i64 r5.1.1)).new w4.heap.size 1 (by omega) (.int .i64 r5.1.2.1)).new w4.heap.size 2 (by omega) (.int .i64 r5.1.2.2)), (((B4_5.new w4.heap.size 0 (by omega) (.int .i64 r5.1.1)).new w4.heap.size 1 (by omega) (.int .i64 r5.1.2.1)).new w4.heap.size 2 (by omega) (.int .i64 r5.1.2.2))⟩ (fun hHeld => ?_)
      clear hK K c6_B5_0 c6_B5_1 c6_B5_2 g6_B5_0 g6_B5_1 g6_B5_2
      refine wpAnyH_done (by kernel_rfl) ?_ _
      clear hHeld
      exact cont2 _ _ _ _ _ _ _ _ _ _ _ _ _ _ _ _ _ _ _ w4.heap.size r4 r5 E4 E5 (((K5.new _ _ (by omega) _).new _ _ (by omega) _).new _ _ (by omega) _) (((f5.new w4.heap.size 0 (by omega) (.int .i64 r5.1.1)).new w4.heap.size 1 (by omega) (.int .i64 r5.1.2.1)).new w4.heap.size 2 (by omega) (.int .i64 r5.1.2.2)) (((B0_5.new w4.heap.size 0 (by omega) (.int .i64 r5.1.1)).new w4.heap.size 1 (by omega) (.int .i64 r5.1.2.1)).new w4.heap.size 2 (by omega) (.int .i64 r5.1.2.2)) (((B1_5.new w4.heap.size 0 (by omega) (.int .i64 r5.1.1)).new w4.heap.size 1 (by omega) (.int .i64 r5.1.2.1)).new w4.heap.size 2 (by omega) (.int .i64 r5.1.2.2)) (((B2_5.new w4.heap.size 0 (by omega) (.int .i64 r5.1.1)).new w4.heap.size 1 (by omega) (.int .i64 r5.1.2.1)).new w4.heap.size 2 (by omega) (.int .i64 r5.1.2.2)) (((B3_5.new w4.heap.size 0 (by omega) (.int .i64 r5.1.1)).new w4.heap.size 1 (by omega) (.int .i64 r5.1.2.1)).new w4.heap.size 2 (by omega) (.int .i64 r5.1.2.2)) (((B4_5.new w4.heap.size 0 (by omega) (.int .i64 r5.1.1)).new w4.heap.size 1 (by omega) (.int .i64 r5.1.2.1)).new w4.heap.size 2 (by omega) (.int .i64 r5.1.2.2)) (((B5_5.put 0 (of_decide_eq_true rfl) (.int .i64 r5.1.1) [.int .i64 r5.1.1, .int .i64 0, .int .i64 0] rfl).put 1 (of_decide_eq_true rfl) (.int .i64 r5.1.2.1) [.int .i64 r5.1.1, .int .i64 r5.1.2.1, .int .i64 0] rfl).put 2 (of_decide_eq_true rfl) (.int .i64 r5.1.2.2) [.int .i64 r5.1.1, .int .i64 r5.1.2.1, .int .i64 r5.1.2.2] rfl) (by omega) (by omega) (by omega) (by omega) (by omega) (by omega) (by omega)
  · go_simp
    clear hHeld
    refine hK.out _ _ ⟨((B1_3.alloc _).drew.alloc _), ((Arr_at _ _ [.int .i64 r3.1.1, .int .i64 r3.1.2.1, .int .i64 r3.1.2.2] _ (by simp)).drew.alloc _)⟩ (fun hHeld => ?_)
    clear hK K
    refine call_at (i := 5) (by kernel_rfl) rfl (fun K hK => ?_)
    go_simp
    refine (uScale_any b r3.2 r3.1 q.2.2.2 _ ((f3.alloc _).drew.alloc _)).mono ?_
    rintro e w4 ⟨rfl, f4, k4⟩
    generalize e4 : uScaleS r3.2 r3.1 q.2.2.2 = r4 at f4 ⊢
    have E4 : Hid _ := e4
    clear e4
    have K4 : Kept b w w4 := Kept.trans ((K3.al _).drew.al _) k4
    have B0_4 : Arr w.heap.size [.int .i64 q.1, .int .i64 q.2.1, .int .i64 q.2.2.1, .int .i64 q.2.2.2] w4 := ((B0_3.alloc _).drew.alloc _).kept k4 (by omega)
    have B1_4 : Arr (w.heap.size + 1) [.int .i64 v.1, .int .i64 v.2.1, .int .i64 v.2.2] w4 := ((B1_3.alloc _).drew.alloc _).kept k4 (by omega)
    have B2_4 : Arr (w.heap.size + 1 + 1) [.int .i64 0, .int .i64 0, .int .i64 0] w4 := ((B2_3.alloc _).drew.alloc _).kept k4 (by omega)
    have B3_4 : Arr w1.heap.size [.int .i64 q.1, .int .i64 q.2.1, .int .i64 q.2.2.1] w4 := ((B3_3.alloc _).drew.alloc _).kept k4 (by omega)
    have B4_4 : Arr w3.heap.size [.int .i64 r3.1.1, .int .i64 r3.1.2.1, .int .i64 r3.1.2.2] w4 := ((Arr_at _ _ [.int .i64 r3.1.1, .int .i64 r3.1.2.1, .int .i64 r3.1.2.2] _ (by simp)).drew.alloc _).kept k4 (by omega)
    have B5_4 : Arr (w3.heap.size + 1) [.int .i64 0, .int .i64 0, .int .i64 0] w4 := (Arr_at _ _ [.int .i64 0, .int .i64 0, .int .i64 0] _ (by simp)).kept k4 (by omega)
    have z4 := B5_4.lies
    clear hHeld
    refine hK.out _ _ ⟨B1_4, B4_4⟩ (fun hHeld => ?_)
    clear hK K K3 f3 B0_3 B1_3 B2_3 B3_3 k4
    refine call_at (i := 6) (by kernel_rfl) rfl (fun K hK => ?_)
    go_simp
    refine (uSub_any b r4.2 v r4.1 _ f4).mono ?_
    rintro e w5 ⟨rfl, f5, k5⟩
    generalize e5 : uSubS r4.2 v r4.1 = r5 at f5 ⊢
    have E5 : Hid _ := e5
    clear e5
    have K5 : Kept b w w5 := Kept.trans K4 k5
    have B0_5 : Arr w.heap.size [.int .i64 q.1, .int .i64 q.2.1, .int .i64 q.2.2.1, .int .i64 q.2.2.2] w5 := B0_4.kept k5 (by omega)
    have B1_5 : Arr (w.heap.size + 1) [.int .i64 v.1, .int .i64 v.2.1, .int .i64 v.2.2] w5 := B1_4.kept k5 (by omega)
    have B2_5 : Arr (w.heap.size + 1 + 1) [.int .i64 0, .int .i64 0, .int .i64 0] w5 := B2_4.kept k5 (by omega)
    have B3_5 : Arr w1.heap.size [.int .i64 q.1, .int .i64 q.2.1, .int .i64 q.2.2.1] w5 := B3_4.kept k5 (by omega)
    have B4_5 : Arr w3.heap.size [.int .i64 r3.1.1, .int .i64 r3.1.2.1, .int .i64 r3.1.2.2] w5 := B4_4.kept k5 (by omega)
    have B5_5 : Arr (w3.heap.size + 1) [.int .i64 0, .int .i64 0, .int .i64 0] w5 := B5_4.kept k5 (by omega)
    have z5 := B5_5.lies
    clear hHeld
    refine hK.out _ _ ⟨B1_5, B4_5⟩ (fun hHeld => ?_)
    clear hK K K4 f4 B0_4 B1_4 B2_4 B3_4 B4_4 B5_4 k5
    refine call_at (i := 8) (by kernel_rfl) rfl (fun K hK => ?_)
    have c6_B5_0 : w5.cell? ⟨w3.heap.size + 1, 0, none⟩ = some (.int .i64 0) := B5_5.c 0 (of_decide_eq_true rfl)
    have c6_B5_1 : w5.cell? ⟨w3.heap.size + 1, 1, none⟩ = some (.int .i64 0) := B5_5.c 1 (of_decide_eq_true rfl)
    have c6_B5_2 : w5.cell? ⟨w3.heap.size + 1, 2, none⟩ = some (.int .i64 0) := B5_5.c 2 (of_decide_eq_true rfl)
    have g6_B5_0 := B5_5.f 0 (of_decide_eq_true rfl)
    have g6_B5_1 := B5_5.f 1 (of_decide_eq_true rfl)
    have g6_B5_2 := B5_5.f 2 (of_decide_eq_true rfl)
    go_simp
    clear hHeld
    refine hK.out _ _ ⟨(((B1_5.new (w3.heap.size + 1) 0 (by omega) (.int .i64 r5.1.1)).new (w3.heap.size + 1) 1 (by omega) (.int .i64 r5.1.2.1)).new (w3.heap.size + 1) 2 (by omega) (.int .i64 r5.1.2.2)), (((B4_5.new (w3.heap.size + 1) 0 (by omega) (.int .i64 r5.1.1)).new (w3.heap.size + 1) 1 (by omega) (.int .i64 r5.1.2.1)).new (w3.heap.size + 1) 2 (by omega) (.int .i64 r5.1.2.2))⟩ (fun hHeld => ?_)
    clear hK K c6_B5_0 c6_B5_1 c6_B5_2 g6_B5_0 g6_B5_1 g6_B5_2
    refine wpAnyH_done (by kernel_rfl) ?_ _
    clear hHeld
    exact cont2 _ _ _ _ _ _ _ _ _ _ _ _ _ _ _ _ _ _ _ (w3.heap.size + 1) r4 r5 E4 E5 (((K5.new _ _ (by omega) _).new _ _ (by omega) _).new _ _ (by omega) _) (((f5.new (w3.heap.size + 1) 0 (by omega) (.int .i64 r5.1.1)).new (w3.heap.size + 1) 1 (by omega) (.int .i64 r5.1.2.1)).new (w3.heap.size + 1) 2 (by omega) (.int .i64 r5.1.2.2)) (((B0_5.new (w3.heap.size + 1) 0 (by omega) (.int .i64 r5.1.1)).new (w3.heap.size + 1) 1 (by omega) (.int .i64 r5.1.2.1)).new (w3.heap.size + 1) 2 (by omega) (.int .i64 r5.1.2.2)) (((B1_5.new (w3.heap.size + 1) 0 (by omega) (.int .i64 r5.1.1)).new (w3.heap.size + 1) 1 (by omega) (.int .i64 r5.1.2.1)).new (w3.heap.size + 1) 2 (by omega) (.int .i64 r5.1.2.2)) (((B2_5.new (w3.heap.size + 1) 0 (by omega) (.int .i64 r5.1.1)).new (w3.heap.size + 1) 1 (by omega) (.int .i64 r5.1.2.1)).new (w3.heap.size + 1) 2 (by omega) (.int .i64 r5.1.2.2)) (((B3_5.new (w3.heap.size + 1) 0 (by omega) (.int .i64 r5.1.1)).new (w3.heap.size + 1) 1 (by omega) (.int .i64 r5.1.2.1)).new (w3.heap.size + 1) 2 (by omega) (.int .i64 r5.1.2.2)) (((B4_5.new (w3.heap.size + 1) 0 (by omega) (.int .i64 r5.1.1)).new (w3.heap.size + 1) 1 (by omega) (.int .i64 r5.1.2.1)).new (w3.heap.size + 1) 2 (by omega) (.int .i64 r5.1.2.2)) (((B5_5.put 0 (of_decide_eq_true rfl) (.int .i64 r5.1.1) [.int .i64 r5.1.1, .int .i64 0, .int .i64 0] rfl).put 1 (of_decide_eq_true rfl) (.int .i64 r5.1.2.1) [.int .i64 r5.1.1, .int .i64 r5.1.2.1, .int .i64 0] rfl).put 2 (of_decide_eq_true rfl) (.int .i64 r5.1.2.2) [.int .i64 r5.1.1, .int .i64 r5.1.2.1, .int .i64 r5.1.2.2] rfl) (by omega) (by omega) (by omega) (by omega) (by omega) (by omega) (by omega)
end Go.Proofs.Yteooceapkkdcpaa
