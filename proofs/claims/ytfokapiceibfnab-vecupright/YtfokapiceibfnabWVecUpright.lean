/-
  The walk of the law VecUpright, for the seat Ytfokapiceibfnab. (Made by mklaw03.py.)
-/
import Derived.Test.YtfokapiceibfnabVAwake
import Derived.Test.YtfokapiceibfnabVOne
import Derived.Handy
import Derived.Deep.RegionHeld3
namespace Go.Proofs.Ytfokapiceibfnab
open Go.RowKit

set_option maxRecDepth 100000 in
set_option maxHeartbeats 4000000 in
theorem VecUpright_p (p : V3) (q : V3) (w : World) (n : Int) (bp : Bool) (hn : vNormS false p = (n, bp)) (hc : n < 1099511627776) :
    Calls Try.prog 3 #[.agg #[.int .i64 p.1, .int .i64 p.2.1, .int .i64 p.2.2], .agg #[.int .i64 q.1, .int .i64 q.2.1, .int .i64 q.2.2]] w fun e w' => e = .returned (.bool true) ∧ Below w.heap.size w w' := by
  go_enter Try.func3, Try.ntmps3
  go_wp2_with fail
  refine (awake_any  _).mono ?_
  rintro e w1 ⟨rfl, k1⟩
  have K1 : Below w.heap.size w w1 := bel_then (bel_al (bel_al (Below.refl w.heap.size w) _) _) k1
  have B0_1 : Arr w.heap.size [.int .i64 p.1, .int .i64 p.2.1, .int .i64 p.2.2] w1 := ((Arr_at _ _ [.int .i64 p.1, .int .i64 p.2.1, .int .i64 p.2.2] _ (by simp)).alloc _).below k1
  have B1_1 : Arr (w.heap.size + 1) [.int .i64 q.1, .int .i64 q.2.1, .int .i64 q.2.2] w1 := (Arr_at _ _ [.int .i64 q.1, .int .i64 q.2.1, .int .i64 q.2.2] _ (by simp)).below k1
  have z1 := B1_1.lies
  clear k1
  have c2_B0_0 : w1.cell? ⟨w.heap.size, 0, none⟩ = some (.int .i64 p.1) := B0_1.c 0 (of_decide_eq_true rfl)
  have c2_B0_1 : w1.cell? ⟨w.heap.size, 1, none⟩ = some (.int .i64 p.2.1) := B0_1.c 1 (of_decide_eq_true rfl)
  have c2_B0_2 : w1.cell? ⟨w.heap.size, 2, none⟩ = some (.int .i64 p.2.2) := B0_1.c 2 (of_decide_eq_true rfl)
  have l2_B0 := B0_1.lies
  go_wp2_with fail
  refine (vNorm_any w1.heap.size false p _ (Fl_at _ _ _ _ (by simp))).mono ?_
  rintro e w2 ⟨rfl, f2, k2⟩
  rw [hn] at f2 ⊢
  dsimp only at f2 ⊢
  have K2 : Below w.heap.size w w2 := k2.on (bel_al K1 _) (by omega)
  have B0_2 : Arr w.heap.size [.int .i64 p.1, .int .i64 p.2.1, .int .i64 p.2.2] w2 := (B0_1.alloc _).kept k2 (by omega)
  have B1_2 : Arr (w.heap.size + 1) [.int .i64 q.1, .int .i64 q.2.1, .int .i64 q.2.2] w2 := (B1_1.alloc _).kept k2 (by omega)
  have z2 := f2.lies
  clear c2_B0_0 c2_B0_1 c2_B0_2 l2_B0 K1 B0_1 B1_1 k2
  go_wp2
  go_ret
  exact ⟨rfl, K2⟩
set_option maxRecDepth 100000 in
set_option maxHeartbeats 4000000 in
theorem VecUpright_q (p : V3) (q : V3) (w : World) (n m : Int) (bq : Bool) (hn : vNormS false p = (n, false)) (hc : 1099511627776 ≤ n) (hm : vNormS false q = (m, bq)) (hd : m < 1099511627776) :
    Calls Try.prog 3 #[.agg #[.int .i64 p.1, .int .i64 p.2.1, .int .i64 p.2.2], .agg #[.int .i64 q.1, .int .i64 q.2.1, .int .i64 q.2.2]] w fun e w' => e = .returned (.bool true) ∧ Below w.heap.size w w' := by
  go_enter Try.func3, Try.ntmps3
  go_wp2_with fail
  refine (awake_any  _).mono ?_
  rintro e w1 ⟨rfl, k1⟩
  have K1 : Below w.heap.size w w1 := bel_then (bel_al (bel_al (Below.refl w.heap.size w) _) _) k1
  have B0_1 : Arr w.heap.size [.int .i64 p.1, .int .i64 p.2.1, .int .i64 p.2.2] w1 := ((Arr_at _ _ [.int .i64 p.1, .int .i64 p.2.1, .int .i64 p.2.2] _ (by simp)).alloc _).below k1
  have B1_1 : Arr (w.heap.size + 1) [.int .i64 q.1, .int .i64 q.2.1, .int .i64 q.2.2] w1 := (Arr_at _ _ [.int .i64 q.1, .int .i64 q.2.1, .int .i64 q.2.2] _ (by simp)).below k1
  have z1 := B1_1.lies
  clear k1
  have c2_B0_0 : w1.cell? ⟨w.heap.size, 0, none⟩ = some (.int .i64 p.1) := B0_1.c 0 (of_decide_eq_true rfl)
  have c2_B0_1 : w1.cell? ⟨w.heap.size, 1, none⟩ = some (.int .i64 p.2.1) := B0_1.c 1 (of_decide_eq_true rfl)
  have c2_B0_2 : w1.cell? ⟨w.heap.size, 2, none⟩ = some (.int .i64 p.2.2) := B0_1.c 2 (of_decide_eq_true rfl)
  have l2_B0 := B0_1.lies
  go_wp2_with fail
  refine (vNorm_any w1.heap.size false p _ (Fl_at _ _ _ _ (by simp))).mono ?_
  rintro e w2 ⟨rfl, f2, k2⟩
  rw [hn] at f2 ⊢
  dsimp only at f2 ⊢
  have K2 : Below w.heap.size w w2 := k2.on (bel_al K1 _) (by omega)
  have B0_2 : Arr w.heap.size [.int .i64 p.1, .int .i64 p.2.1, .int .i64 p.2.2] w2 := (B0_1.alloc _).kept k2 (by omega)
  have B1_2 : Arr (w.heap.size + 1) [.int .i64 q.1, .int .i64 q.2.1, .int .i64 q.2.2] w2 := (B1_1.alloc _).kept k2 (by omega)
  have z2 := f2.lies
  clear c2_B0_0 c2_B0_1 c2_B0_2 l2_B0 K1 B0_1 B1_1 k2
  have c3_B1_0 : w2.cell? ⟨w.heap.size + 1, 0, none⟩ = some (.int .i64 q.1) := B1_2.c 0 (of_decide_eq_true rfl)
  have c3_B1_1 : w2.cell? ⟨w.heap.size + 1, 1, none⟩ = some (.int .i64 q.2.1) := B1_2.c 1 (of_decide_eq_true rfl)
  have c3_B1_2 : w2.cell? ⟨w.heap.size + 1, 2, none⟩ = some (.int .i64 q.2.2) := B1_2.c 2 (of_decide_eq_true rfl)
  go_wp2_with fail
  refine (vNorm_any w1.heap.size false q _ f2).mono ?_
  rintro e w3 ⟨rfl, f3, k3⟩
  rw [hm] at f3 ⊢
  dsimp only at f3 ⊢
  have K3 : Below w.heap.size w w3 := k3.on K2 (by omega)
  have B0_3 : Arr w.heap.size [.int .i64 p.1, .int .i64 p.2.1, .int .i64 p.2.2] w3 := B0_2.kept k3 (by omega)
  have B1_3 : Arr (w.heap.size + 1) [.int .i64 q.1, .int .i64 q.2.1, .int .i64 q.2.2] w3 := B1_2.kept k3 (by omega)
  have z3 := f3.lies
  clear c3_B1_0 c3_B1_1 c3_B1_2 K2 B0_2 B1_2 f2 k3
  go_wp2
  go_ret
  exact ⟨rfl, K3⟩
set_option maxRecDepth 100000 in
set_option maxHeartbeats 4000000 in
theorem VecUpright_good (p : V3) (q : V3) (w : World) (n m u0 u1 u2 v0 v1 v2 c0 c1 c2 d e0 : Int) (hn : vNormS false p = (n, false)) (hc : 1099511627776 ≤ n) (hm : vNormS false q = (m, false)) (hcm : 1099511627776 ≤ m) (hu : vUnitS false p = ((u0, u1, u2), false)) (hv : vUnitS false q = ((v0, v1, v2), false)) (hx : vCrossS false (u0, u1, u2) (v0, v1, v2) = ((c0, c1, c2), false)) (hd : vDotS false (u0, u1, u2) (c0, c1, c2) = (d, false)) (he : vDotS false (v0, v1, v2) (c0, c1, c2) = (e0, false)) (b1 : -16 ≤ d) (b2 : d ≤ 16) (b3 : -16 ≤ e0) (b4 : e0 ≤ 16) :
    Calls Try.prog 3 #[.agg #[.int .i64 p.1, .int .i64 p.2.1, .int .i64 p.2.2], .agg #[.int .i64 q.1, .int .i64 q.2.1, .int .i64 q.2.2]] w fun e w' => e = .returned (.bool true) ∧ Below w.heap.size w w' := by
  go_enter Try.func3, Try.ntmps3
  go_wp2_with fail
  refine (awake_any  _).mono ?_
  rintro e w1 ⟨rfl, k1⟩
  have K1 : Below w.heap.size w w1 := bel_then (bel_al (bel_al (Below.refl w.heap.size w) _) _) k1
  have B0_1 : Arr w.heap.size [.int .i64 p.1, .int .i64 p.2.1, .int .i64 p.2.2] w1 := ((Arr_at _ _ [.int .i64 p.1, .int .i64 p.2.1, .int .i64 p.2.2] _ (by simp)).alloc _).below k1
  have B1_1 : Arr (w.heap.size + 1) [.int .i64 q.1, .int .i64 q.2.1, .int .i64 q.2.2] w1 := (Arr_at _ _ [.int .i64 q.1, .int .i64 q.2.1, .int .i64 q.2.2] _ (by simp)).below k1
  have z1 := B1_1.lies
  clear k1
  have c2_B0_0 : w1.cell? ⟨w.heap.size, 0, none⟩ = some (.int .i64 p.1) := B0_1.c 0 (of_decide_eq_true rfl)
  have c2_B0_1 : w1.cell? ⟨w.heap.size, 1, none⟩ = some (.int .i64 p.2.1) := B0_1.c 1 (of_decide_eq_true rfl)
  have c2_B0_2 : w1.cell? ⟨w.heap.size, 2, none⟩ = some (.int .i64 p.2.2) := B0_1.c 2 (of_decide_eq_true rfl)
  have l2_B0 := B0_1.lies
  go_wp2_with fail
  refine (vNorm_any w1.heap.size false p _ (Fl_at _ _ _ _ (by simp))).mono ?_
  rintro e w2 ⟨rfl, f2, k2⟩
  rw [hn] at f2 ⊢
  dsimp only at f2 ⊢
  have K2 : Below w.heap.size w w2 := k2.on (bel_al K1 _) (by omega)
  have B0_2 : Arr w.heap.size [.int .i64 p.1, .int .i64 p.2.1, .int .i64 p.2.2] w2 := (B0_1.alloc _).kept k2 (by omega)
  have B1_2 : Arr (w.heap.size + 1) [.int .i64 q.1, .int .i64 q.2.1, .int .i64 q.2.2] w2 := (B1_1.alloc _).kept k2 (by omega)
  have z2 := f2.lies
  clear c2_B0_0 c2_B0_1 c2_B0_2 l2_B0 K1 B0_1 B1_1 k2
  have c3_B1_0 : w2.cell? ⟨w.heap.size + 1, 0, none⟩ = some (.int .i64 q.1) := B1_2.c 0 (of_decide_eq_true rfl)
  have c3_B1_1 : w2.cell? ⟨w.heap.size + 1, 1, none⟩ = some (.int .i64 q.2.1) := B1_2.c 1 (of_decide_eq_true rfl)
  have c3_B1_2 : w2.cell? ⟨w.heap.size + 1, 2, none⟩ = some (.int .i64 q.2.2) := B1_2.c 2 (of_decide_eq_true rfl)
  go_wp2_with fail
  refine (vNorm_any w1.heap.size false q _ f2).mono ?_
  rintro e w3 ⟨rfl, f3, k3⟩
  rw [hm] at f3 ⊢
  dsimp only at f3 ⊢
  have K3 : Below w.heap.size w w3 := k3.on K2 (by omega)
  have B0_3 : Arr w.heap.size [.int .i64 p.1, .int .i64 p.2.1, .int .i64 p.2.2] w3 := B0_2.kept k3 (by omega)
  have B1_3 : Arr (w.heap.size + 1) [.int .i64 q.1, .int .i64 q.2.1, .int .i64 q.2.2] w3 := B1_2.kept k3 (by omega)
  have z3 := f3.lies
  clear c3_B1_0 c3_B1_1 c3_B1_2 K2 B0_2 B1_2 f2 k3
  have c4_B2 := f3.cell
  go_wp2_with fail
  clear c4_B2
  rename_i K0 aK0
  have cont1 : ∀ (W1 : World) (t1_11 t1_12 t1_13 t1_14 t1_15 t1_16 t1_17 t1_18 t1_19 t1_20 t1_21 t1_22 t1_23 t1_24 t1_25 t1_26 t1_27 t1_28 t1_29 t1_30 t1_31 t1_32 t1_33 t1_34 t1_35 t1_36 : Value) (x1_0 : Nat) (x1_1 : Nat) , Below w.heap.size w W1 → Arr w.heap.size [.int .i64 p.1, .int .i64 p.2.1, .int .i64 p.2.2] W1 → Arr (w.heap.size + 1) [.int .i64 q.1, .int .i64 q.2.1, .int .i64 q.2.2] W1 → Fl w1.heap.size false W1 → Arr x1_0 [.int .i64 u0, .int .i64 u1, .int .i64 u2] W1 → Arr x1_1 [.int .i64 v0, .int .i64 v1, .int .i64 v2] W1 → w.heap.size ≤ x1_0 → w.heap.size ≤ x1_1 → w.heap.size < x1_0 → w.heap.size + 1 < x1_0 → w1.heap.size < x1_0 → w.heap.size < x1_1 → w.heap.size + 1 < x1_1 → w1.heap.size < x1_1 → x1_0 ≠ x1_1 → K0 { tmps := #[.agg #[.int .i64 p.1, .int .i64 p.2.1, .int .i64 p.2.2], .agg #[.int .i64 q.1, .int .i64 q.2.1, .int .i64 q.2.2], .pointer (some ⟨w.heap.size, 0, none⟩), .pointer (some ⟨w.heap.size + 1, 0, none⟩), .bool false, .pointer (some ⟨w1.heap.size, 0, none⟩), .pointer (some ⟨x1_0, 0, none⟩), .pointer (some ⟨x1_1, 0, none⟩), undef, undef, undef, t1_11, t1_12, t1_13, t1_14, t1_15, t1_16, t1_17, t1_18, t1_19, t1_20, t1_21, t1_22, t1_23, t1_24, t1_25, t1_26, t1_27, t1_28, t1_29, t1_30, t1_31, t1_32, t1_33, t1_34, t1_35, t1_36, undef, undef, undef, undef, undef, undef, undef, undef, undef, undef, undef, undef, undef, undef, undef, undef, undef, undef, undef, undef, undef, undef, undef, undef, undef, undef, undef, undef, undef, undef, undef, undef, undef], defers := [] } W1 := by
    intro W1 t1_11 t1_12 t1_13 t1_14 t1_15 t1_16 t1_17 t1_18 t1_19 t1_20 t1_21 t1_22 t1_23 t1_24 t1_25 t1_26 t1_27 t1_28 t1_29 t1_30 t1_31 t1_32 t1_33 t1_34 t1_35 t1_36 x1_0 x1_1 KC1 B0_c1 B1_c1 B2_c1 B3_c1 B4_c1 s1_0 s1_1 s1_2 s1_3 s1_4 s1_5 s1_6 s1_7 s1_8
    apply aK0
    have c5_B3_0 : W1.cell? ⟨x1_0, 0, none⟩ = some (.int .i64 u0) := B3_c1.c 0 (of_decide_eq_true rfl)
    have c5_B3_1 : W1.cell? ⟨x1_0, 1, none⟩ = some (.int .i64 u1) := B3_c1.c 1 (of_decide_eq_true rfl)
    have c5_B3_2 : W1.cell? ⟨x1_0, 2, none⟩ = some (.int .i64 u2) := B3_c1.c 2 (of_decide_eq_true rfl)
    have c5_B4_0 : W1.cell? ⟨x1_1, 0, none⟩ = some (.int .i64 v0) := B4_c1.c 0 (of_decide_eq_true rfl)
    have c5_B4_1 : W1.cell? ⟨x1_1, 1, none⟩ = some (.int .i64 v1) := B4_c1.c 1 (of_decide_eq_true rfl)
    have c5_B4_2 : W1.cell? ⟨x1_1, 2, none⟩ = some (.int .i64 v2) := B4_c1.c 2 (of_decide_eq_true rfl)
    go_wp2_with fail
    refine (vCross_any w1.heap.size false (u0, u1, u2) (v0, v1, v2) _ B2_c1).mono ?_
    rintro e w6 ⟨rfl, f6, k6⟩
    rw [hx] at f6 ⊢
    dsimp only at f6 ⊢
    have K6 : Below w.heap.size w w6 := k6.on KC1 (by omega)
    have B0_6 : Arr w.heap.size [.int .i64 p.1, .int .i64 p.2.1, .int .i64 p.2.2] w6 := B0_c1.kept k6 (by omega)
    have B1_6 : Arr (w.heap.size + 1) [.int .i64 q.1, .int .i64 q.2.1, .int .i64 q.2.2] w6 := B1_c1.kept k6 (by omega)
    have B3_6 : Arr x1_0 [.int .i64 u0, .int .i64 u1, .int .i64 u2] w6 := B3_c1.kept k6 (by omega)
    have B4_6 : Arr x1_1 [.int .i64 v0, .int .i64 v1, .int .i64 v2] w6 := B4_c1.kept k6 (by omega)
    have z6 := B4_6.lies
    clear c5_B3_0 c5_B3_1 c5_B3_2 c5_B4_0 c5_B4_1 c5_B4_2 B0_c1 B1_c1 B2_c1 B3_c1 B4_c1 k6
    go_wp2_with fail
    refine wp_region_held_drew (S := fun w' => Arr x1_0 [.int .i64 u0, .int .i64 u1, .int .i64 u2] w' ∧ Arr w6.heap.size [.int .i64 c0, .int .i64 c1, .int .i64 c2] w' ∧ Arr x1_1 [.int .i64 v0, .int .i64 v1, .int .i64 v2] w') (by kernel_rfl) ⟨(B3_6.alloc _).drew, (Arr_at _ _ [.int .i64 c0, .int .i64 c1, .int .i64 c2] _ (by simp)).drew, (B4_6.alloc _).drew⟩ (fun hHeld => ?_)
    refine take_at (i := 0) (v := ?v1) rfl (by kernel_rfl) (by kernel_rfl) (by kernel_rfl) (fun _ _ _ h => h) (Or.inl ⟨by rfl, ?y1⟩) hHeld ?t1
    case y1 => (intro wx hSw; go_simp <;> with_reducible rfl)
    simp only [Act.put, List.setIfInBounds_toArray, List.set_cons_zero, List.set_cons_succ]
    refine take_at (i := 1) (v := ?v2) rfl (by kernel_rfl) (by kernel_rfl) (by kernel_rfl) (fun _ _ _ h => h) (Or.inl ⟨by rfl, ?y2⟩) hHeld ?t2
    case y2 => (intro wx hSw; have hc0 : wx.cell? ⟨x1_0, 0, none⟩ = some (.int .i64 u0) := hSw.1.c 0 (of_decide_eq_true rfl); have hc1 : wx.cell? ⟨x1_0, 1, none⟩ = some (.int .i64 u1) := hSw.1.c 1 (of_decide_eq_true rfl); have hc2 : wx.cell? ⟨x1_0, 2, none⟩ = some (.int .i64 u2) := hSw.1.c 2 (of_decide_eq_true rfl); go_simp <;> with_reducible rfl)
    simp only [Act.put, List.setIfInBounds_toArray, List.set_cons_zero, List.set_cons_succ]
    refine take_at (i := 2) (v := ?v3) rfl (by kernel_rfl) (by kernel_rfl) (by kernel_rfl) (fun _ _ _ h => h) (Or.inl ⟨by rfl, ?y3⟩) hHeld ?t3
    case y3 => (intro wx hSw; have hc0 : wx.cell? ⟨w6.heap.size, 0, none⟩ = some (.int .i64 c0) := hSw.2.1.c 0 (of_decide_eq_true rfl); have hc1 : wx.cell? ⟨w6.heap.size, 1, none⟩ = some (.int .i64 c1) := hSw.2.1.c 1 (of_decide_eq_true rfl); have hc2 : wx.cell? ⟨w6.heap.size, 2, none⟩ = some (.int .i64 c2) := hSw.2.1.c 2 (of_decide_eq_true rfl); go_simp <;> with_reducible rfl)
    simp only [Act.put, List.setIfInBounds_toArray, List.set_cons_zero, List.set_cons_succ]
    refine take_at (i := 4) (v := ?v4) rfl (by kernel_rfl) (by kernel_rfl) (by kernel_rfl) (fun _ _ _ h => h) (Or.inl ⟨by rfl, ?y4⟩) hHeld ?t4
    case y4 => (intro wx hSw; go_simp <;> with_reducible rfl)
    simp only [Act.put, List.setIfInBounds_toArray, List.set_cons_zero, List.set_cons_succ]
    refine take_at (i := 5) (v := ?v5) rfl (by kernel_rfl) (by kernel_rfl) (by kernel_rfl) (fun _ _ _ h => h) (Or.inl ⟨by rfl, ?y5⟩) hHeld ?t5
    case y5 => (intro wx hSw; have hc0 : wx.cell? ⟨x1_1, 0, none⟩ = some (.int .i64 v0) := hSw.2.2.c 0 (of_decide_eq_true rfl); have hc1 : wx.cell? ⟨x1_1, 1, none⟩ = some (.int .i64 v1) := hSw.2.2.c 1 (of_decide_eq_true rfl); have hc2 : wx.cell? ⟨x1_1, 2, none⟩ = some (.int .i64 v2) := hSw.2.2.c 2 (of_decide_eq_true rfl); go_simp <;> with_reducible rfl)
    simp only [Act.put, List.setIfInBounds_toArray, List.set_cons_zero, List.set_cons_succ]
    refine take_at (i := 6) (v := ?v6) rfl (by kernel_rfl) (by kernel_rfl) (by kernel_rfl) (fun _ _ _ h => h) (Or.inl ⟨by rfl, ?y6⟩) hHeld ?t6
    case y6 => (intro wx hSw; have hc0 : wx.cell? ⟨w6.heap.size, 0, none⟩ = some (.int .i64 c0) := hSw.2.1.c 0 (of_decide_eq_true rfl); have hc1 : wx.cell? ⟨w6.heap.size, 1, none⟩ = some (.int .i64 c1) := hSw.2.1.c 1 (of_decide_eq_true rfl); have hc2 : wx.cell? ⟨w6.heap.size, 2, none⟩ = some (.int .i64 c2) := hSw.2.1.c 2 (of_decide_eq_true rfl); go_simp <;> with_reducible rfl)
    simp only [Act.put, List.setIfInBounds_toArray, List.set_cons_zero, List.set_cons_succ]
    refine call_at (i := 3) (by kernel_rfl) rfl (fun K hK => ?_)
    go_simp
    refine (vDot_any w1.heap.size false (u0, u1, u2) (c0, c1, c2) _ (f6.alloc _).drew).mono ?_
    rintro e w7 ⟨rfl, f7, k7⟩
    rw [hd] at f7 ⊢
    dsimp only at f7 ⊢
    have K7 : Below w.heap.size w w7 := k7.on (Below.drew (bel_al K6 _)) (by omega)
    have B0_7 : Arr w.heap.size [.int .i64 p.1, .int .i64 p.2.1, .int .i64 p.2.2] w7 := (B0_6.alloc _).drew.kept k7 (by omega)
    have B1_7 : Arr (w.heap.size + 1) [.int .i64 q.1, .int .i64 q.2.1, .int .i64 q.2.2] w7 := (B1_6.alloc _).drew.kept k7 (by omega)
    have B3_7 : Arr x1_0 [.int .i64 u0, .int .i64 u1, .int .i64 u2] w7 := (B3_6.alloc _).drew.kept k7 (by omega)
    have B4_7 : Arr x1_1 [.int .i64 v0, .int .i64 v1, .int .i64 v2] w7 := (B4_6.alloc _).drew.kept k7 (by omega)
    have B5_7 : Arr w6.heap.size [.int .i64 c0, .int .i64 c1, .int .i64 c2] w7 := (Arr_at _ _ [.int .i64 c0, .int .i64 c1, .int .i64 c2] _ (by simp)).drew.kept k7 (by omega)
    have z7 := B5_7.lies
    clear hHeld
    refine hK.out _ _ ⟨B3_7, B5_7, B4_7⟩ (fun hHeld => ?_)
    clear hK K K6 B0_6 B1_6 f6 B3_6 B4_6 k7
    refine call_at (i := 7) (by kernel_rfl) rfl (fun K hK => ?_)
    go_simp
    refine (vDot_any w1.heap.size false (v0, v1, v2) (c0, c1, c2) _ f7).mono ?_
    rintro e w8 ⟨rfl, f8, k8⟩
    rw [he] at f8 ⊢
    dsimp only at f8 ⊢
    have K8 : Below w.heap.size w w8 := k8.on K7 (by omega)
    have B0_8 : Arr w.heap.size [.int .i64 p.1, .int .i64 p.2.1, .int .i64 p.2.2] w8 := B0_7.kept k8 (by omega)
    have B1_8 : Arr (w.heap.size + 1) [.int .i64 q.1, .int .i64 q.2.1, .int .i64 q.2.2] w8 := B1_7.kept k8 (by omega)
    have B3_8 : Arr x1_0 [.int .i64 u0, .int .i64 u1, .int .i64 u2] w8 := B3_7.kept k8 (by omega)
    have B4_8 : Arr x1_1 [.int .i64 v0, .int .i64 v1, .int .i64 v2] w8 := B4_7.kept k8 (by omega)
    have B5_8 : Arr w6.heap.size [.int .i64 c0, .int .i64 c1, .int .i64 c2] w8 := B5_7.kept k8 (by omega)
    have z8 := B5_8.lies
    clear hHeld
    refine hK.out _ _ ⟨B3_8, B5_8, B4_8⟩ (fun hHeld => ?_)
    clear hK K K7 B0_7 B1_7 f7 B3_7 B4_7 B5_7 k8
    refine take_at (i := 8) (v := ?v7) rfl (by kernel_rfl) (by kernel_rfl) (by kernel_rfl) (fun _ _ _ h => h) (Or.inl ⟨by rfl, ?y7⟩) hHeld ?t7
    case y7 => (intro wx hSw; go_simp <;> with_reducible rfl)
    simp only [Act.put, List.setIfInBounds_toArray, List.set_cons_zero, List.set_cons_succ]
    refine take_at (i := 9) (v := ?v8) rfl (by kernel_rfl) (by kernel_rfl) (by kernel_rfl) (fun _ _ _ h => h) (Or.inl ⟨by rfl, ?y8⟩) hHeld ?t8
    case y8 => (intro wx hSw; go_simp <;> with_reducible rfl)
    simp only [Act.put, List.setIfInBounds_toArray, List.set_cons_zero, List.set_cons_succ]
    refine wpAnyH_done (by kernel_rfl) ?_ _
    clear hHeld
    have c7_B2 := f8.cell
    go_wp2
    clear c7_B2
    go_ret
    exact ⟨rfl, K8⟩
  refine wp_region_held_drew (S := fun w' => Arr w.heap.size [.int .i64 p.1, .int .i64 p.2.1, .int .i64 p.2.2] w' ∧ Arr (w.heap.size + 1) [.int .i64 q.1, .int .i64 q.2.1, .int .i64 q.2.2] w') (by kernel_rfl) ⟨B0_3.drew, B1_3.drew⟩ (fun hHeld => ?_)
  refine take_at (i := 0) (v := ?v9) rfl (by kernel_rfl) (by kernel_rfl) (by kernel_rfl) (fun _ _ _ h => h) (Or.inl ⟨by rfl, ?y9⟩) hHeld ?t9
  case y9 => (intro wx hSw; go_simp <;> with_reducible rfl)
  simp only [Act.put, List.setIfInBounds_toArray, List.set_cons_zero, List.set_cons_succ]
  refine take_at (i := 1) (v := ?v10) rfl (by kernel_rfl) (by kernel_rfl) (by kernel_rfl) (fun _ _ _ h => h) (Or.inl ⟨by rfl, ?y10⟩) hHeld ?t10
  case y10 => (intro wx hSw; have hc0 : wx.cell? ⟨w.heap.size, 0, none⟩ = some (.int .i64 p.1) := hSw.1.c 0 (of_decide_eq_true rfl); have hc1 : wx.cell? ⟨w.heap.size, 1, none⟩ = some (.int .i64 p.2.1) := hSw.1.c 1 (of_decide_eq_true rfl); have hc2 : wx.cell? ⟨w.heap.size, 2, none⟩ = some (.int .i64 p.2.2) := hSw.1.c 2 (of_decide_eq_true rfl); go_simp <;> with_reducible rfl)
  simp only [Act.put, List.setIfInBounds_toArray, List.set_cons_zero, List.set_cons_succ]
  refine take_at (i := 3) (v := ?v11) rfl (by kernel_rfl) (by kernel_rfl) (by kernel_rfl) (fun _ _ _ h => h) (Or.inl ⟨by rfl, ?y11⟩) hHeld ?t11
  case y11 => (intro wx hSw; go_simp <;> with_reducible rfl)
  simp only [Act.put, List.setIfInBounds_toArray, List.set_cons_zero, List.set_cons_succ]
  refine take_at (i := 4) (v := ?v12) rfl (by kernel_rfl) (by kernel_rfl) (by kernel_rfl) (fun _ _ _ h => h) (Or.inl ⟨by rfl, ?y12⟩) hHeld ?t12
  case y12 => (intro wx hSw; have hc0 : wx.cell? ⟨w.heap.size + 1, 0, none⟩ = some (.int .i64 q.1) := hSw.2.c 0 (of_decide_eq_true rfl); have hc1 : wx.cell? ⟨w.heap.size + 1, 1, none⟩ = some (.int .i64 q.2.1) := hSw.2.c 1 (of_decide_eq_true rfl); have hc2 : wx.cell? ⟨w.heap.size + 1, 2, none⟩ = some (.int .i64 q.2.2) := hSw.2.c 2 (of_decide_eq_true rfl); go_simp <;> with_reducible rfl)
  simp only [Act.put, List.setIfInBounds_toArray, List.set_cons_zero, List.set_cons_succ]
  refine call_at3 (i0 := 2) (i1 := 6) (i2 := 7) (by kernel_rfl) rfl rfl rfl (fun K hK => ?_) (fun K hK => ?_) (fun K hK => ?_)
  · go_simp
    refine (vUnit_any w1.heap.size false p _ f3.drew).mono ?_
    rintro e w4 ⟨rfl, f4, k4⟩
    rw [hu] at f4 ⊢
    dsimp only at f4 ⊢
    have K4 : Below w.heap.size w w4 := k4.on (Below.drew K3) (by omega)
    have B0_4 : Arr w.heap.size [.int .i64 p.1, .int .i64 p.2.1, .int .i64 p.2.2] w4 := B0_3.drew.kept k4 (by omega)
    have B1_4 : Arr (w.heap.size + 1) [.int .i64 q.1, .int .i64 q.2.1, .int .i64 q.2.2] w4 := B1_3.drew.kept k4 (by omega)
    have z4 := f4.lies
    clear hHeld
    refine hK.out _ _ ⟨B0_4, B1_4⟩ (fun hHeld => ?_)
    clear hK K K3 B0_3 B1_3 f3 k4
    refine call_at3 (i0 := 5) (i1 := 6) (i2 := 7) (by kernel_rfl) rfl rfl rfl (fun K hK => ?_) (fun K hK => ?_) (fun K hK => ?_)
    · go_simp
      refine (vUnit_any w1.heap.size false q _ f4).mono ?_
      rintro e w5 ⟨rfl, f5, k5⟩
      rw [hv] at f5 ⊢
      dsimp only at f5 ⊢
      have K5 : Below w.heap.size w w5 := k5.on K4 (by omega)
      have B0_5 : Arr w.heap.size [.int .i64 p.1, .int .i64 p.2.1, .int .i64 p.2.2] w5 := B0_4.kept k5 (by omega)
      have B1_5 : Arr (w.heap.size + 1) [.int .i64 q.1, .int .i64 q.2.1, .int .i64 q.2.2] w5 := B1_4.kept k5 (by omega)
      have z5 := f5.lies
      clear hHeld
      refine hK.out _ _ ⟨B0_5, B1_5⟩ (fun hHeld => ?_)
      clear hK K K4 B0_4 B1_4 f4 k5
      refine call_at2 (i0 := 6) (i1 := 7) (by kernel_rfl) rfl rfl (fun K hK => ?_) (fun K hK => ?_)
      · go_simp
        clear hHeld
        refine hK.out _ _ ⟨(B0_5.alloc _), (B1_5.alloc _)⟩ (fun hHeld => ?_)
        clear hK K
        refine call_at (i := 7) (by kernel_rfl) rfl (fun K hK => ?_)
        go_simp
        clear hHeld
        refine hK.out _ _ ⟨((B0_5.alloc _).alloc _), ((B1_5.alloc _).alloc _)⟩ (fun hHeld => ?_)
        clear hK K
        refine call_at (i := 8) (by kernel_rfl) rfl (fun K hK => ?_)
        go_simp
        clear hHeld
        refine hK.out _ _ ⟨((B0_5.alloc _).alloc _), ((B1_5.alloc _).alloc _)⟩ (fun hHeld => ?_)
        clear hK K
        refine call_at (i := 9) (by kernel_rfl) rfl (fun K hK => ?_)
        go_simp
        clear hHeld
        refine hK.out _ _ ⟨((B0_5.alloc _).alloc _), ((B1_5.alloc _).alloc _)⟩ (fun hHeld => ?_)
        clear hK K
        refine wpAnyH_done (by kernel_rfl) ?_ _
        clear hHeld
        exact cont1 _ _ _ _ _ _ _ _ _ _ _ _ _ _ _ _ _ _ _ _ _ _ _ _ _ _ _ w5.heap.size (w5.heap.size + 1) (bel_al (bel_al K5 _) _) ((B0_5.alloc _).alloc _) ((B1_5.alloc _).alloc _) ((f5.alloc _).alloc _) ((Arr_at _ _ [.int .i64 u0, .int .i64 u1, .int .i64 u2] _ (by simp)).alloc _) (Arr_at _ _ [.int .i64 v0, .int .i64 v1, .int .i64 v2] _ (by simp)) (by omega) (by omega) (by omega) (by omega) (by omega) (by omega) (by omega) (by omega) (by omega)
      · go_simp
        clear hHeld
        refine hK.out _ _ ⟨(B0_5.alloc _), (B1_5.alloc _)⟩ (fun hHeld => ?_)
        clear hK K
        refine call_at (i := 6) (by kernel_rfl) rfl (fun K hK => ?_)
        go_simp
        clear hHeld
        refine hK.out _ _ ⟨((B0_5.alloc _).alloc _), ((B1_5.alloc _).alloc _)⟩ (fun hHeld => ?_)
        clear hK K
        refine call_at (i := 8) (by kernel_rfl) rfl (fun K hK => ?_)
        go_simp
        clear hHeld
        refine hK.out _ _ ⟨((B0_5.alloc _).alloc _), ((B1_5.alloc _).alloc _)⟩ (fun hHeld => ?_)
        clear hK K
        refine call_at (i := 9) (by kernel_rfl) rfl (fun K hK => ?_)
        go_simp
        clear hHeld
        refine hK.out _ _ ⟨((B0_5.alloc _).alloc _), ((B1_5.alloc _).alloc _)⟩ (fun hHeld => ?_)
        clear hK K
        refine wpAnyH_done (by kernel_rfl) ?_ _
        clear hHeld
        exact cont1 _ _ _ _ _ _ _ _ _ _ _ _ _ _ _ _ _ _ _ _ _ _ _ _ _ _ _ (w5.heap.size + 1) w5.heap.size (bel_al (bel_al K5 _) _) ((B0_5.alloc _).alloc _) ((B1_5.alloc _).alloc _) ((f5.alloc _).alloc _) (Arr_at _ _ [.int .i64 u0, .int .i64 u1, .int .i64 u2] _ (by simp)) ((Arr_at _ _ [.int .i64 v0, .int .i64 v1, .int .i64 v2] _ (by simp)).alloc _) (by omega) (by omega) (by omega) (by omega) (by omega) (by omega) (by omega) (by omega) (by omega)
    · go_simp
      clear hHeld
      refine hK.out _ _ ⟨(B0_4.alloc _), (B1_4.alloc _)⟩ (fun hHeld => ?_)
      clear hK K
      refine call_at2 (i0 := 5) (i1 := 7) (by kernel_rfl) rfl rfl (fun K hK => ?_) (fun K hK => ?_)
      · go_simp
        refine (vUnit_any w1.heap.size false q _ (f4.alloc _)).mono ?_
        rintro e w5 ⟨rfl, f5, k5⟩
        rw [hv] at f5 ⊢
        dsimp only at f5 ⊢
        have K5 : Below w.heap.size w w5 := k5.on (bel_al K4 _) (by omega)
        have B0_5 : Arr w.heap.size [.int .i64 p.1, .int .i64 p.2.1, .int .i64 p.2.2] w5 := (B0_4.alloc _).kept k5 (by omega)
        have B1_5 : Arr (w.heap.size + 1) [.int .i64 q.1, .int .i64 q.2.1, .int .i64 q.2.2] w5 := (B1_4.alloc _).kept k5 (by omega)
        have B3_5 : Arr w4.heap.size [.int .i64 0, .int .i64 0, .int .i64 0] w5 := (Arr_at _ _ [.int .i64 0, .int .i64 0, .int .i64 0] _ (by simp)).kept k5 (by omega)
        have z5 := B3_5.lies
        clear hHeld
        refine hK.out _ _ ⟨B0_5, B1_5⟩ (fun hHeld => ?_)
        clear hK K K4 B0_4 B1_4 f4 k5
        refine call_at (i := 7) (by kernel_rfl) rfl (fun K hK => ?_)
        go_simp
        clear hHeld
        refine hK.out _ _ ⟨(B0_5.alloc _), (B1_5.alloc _)⟩ (fun hHeld => ?_)
        clear hK K
        refine call_at (i := 8) (by kernel_rfl) rfl (fun K hK => ?_)
        have c7_B3_0 : w5.cell? ⟨w4.heap.size, 0, none⟩ = some (.int .i64 0) := B3_5.c 0 (of_decide_eq_true rfl)
        have c7_B3_1 : w5.cell? ⟨w4.heap.size, 1, none⟩ = some (.int .i64 0) := B3_5.c 1 (of_decide_eq_true rfl)
        have c7_B3_2 : w5.cell? ⟨w4.heap.size, 2, none⟩ = some (.int .i64 0) := B3_5.c 2 (of_decide_eq_true rfl)
        have g7_B3_0 := B3_5.f 0 (of_decide_eq_true rfl)
        have g7_B3_1 := B3_5.f 1 (of_decide_eq_true rfl)
        have g7_B3_2 := B3_5.f 2 (of_decide_eq_true rfl)
        have l7_B3 := B3_5.lies
        go_simp
        clear hHeld
        refine hK.out _ _ ⟨((((B0_5.new _ _ (by omega) _).new _ _ (by omega) _).new _ _ (by omega) _).alloc _), ((((B1_5.new _ _ (by omega) _).new _ _ (by omega) _).new _ _ (by omega) _).alloc _)⟩ (fun hHeld => ?_)
        clear hK K c7_B3_0 c7_B3_1 c7_B3_2 g7_B3_0 g7_B3_1 g7_B3_2 l7_B3
        refine call_at (i := 9) (by kernel_rfl) rfl (fun K hK => ?_)
        go_simp
        clear hHeld
        refine hK.out _ _ ⟨((((B0_5.new _ _ (by omega) _).new _ _ (by omega) _).new _ _ (by omega) _).alloc _), ((((B1_5.new _ _ (by omega) _).new _ _ (by omega) _).new _ _ (by omega) _).alloc _)⟩ (fun hHeld => ?_)
        clear hK K
        refine wpAnyH_done (by kernel_rfl) ?_ _
        clear hHeld
        exact cont1 _ _ _ _ _ _ _ _ _ _ _ _ _ _ _ _ _ _ _ _ _ _ _ _ _ _ _ w4.heap.size w5.heap.size (bel_al (bel_new (bel_new (bel_new K5 _ _ (by omega) _) _ _ (by omega) _) _ _ (by omega) _) _) ((((B0_5.new _ _ (by omega) _).new _ _ (by omega) _).new _ _ (by omega) _).alloc _) ((((B1_5.new _ _ (by omega) _).new _ _ (by omega) _).new _ _ (by omega) _).alloc _) ((((f5.new _ _ (by omega) _).new _ _ (by omega) _).new _ _ (by omega) _).alloc _) ((((B3_5.put 0 (of_decide_eq_true rfl) (.int .i64 u0) [.int .i64 u0, .int .i64 0, .int .i64 0] rfl).put 1 (of_decide_eq_true rfl) (.int .i64 u1) [.int .i64 u0, .int .i64 u1, .int .i64 0] rfl).put 2 (of_decide_eq_true rfl) (.int .i64 u2) [.int .i64 u0, .int .i64 u1, .int .i64 u2] rfl).alloc _) (Arr_at _ _ [.int .i64 v0, .int .i64 v1, .int .i64 v2] _ (by simp)) (by omega) (by omega) (by omega) (by omega) (by omega) (by omega) (by omega) (by omega) (by omega)
      · go_simp
        clear hHeld
        refine hK.out _ _ ⟨((B0_4.alloc _).alloc _), ((B1_4.alloc _).alloc _)⟩ (fun hHeld => ?_)
        clear hK K
        refine call_at (i := 5) (by kernel_rfl) rfl (fun K hK => ?_)
        go_simp
        refine (vUnit_any w1.heap.size false q _ ((f4.alloc _).alloc _)).mono ?_
        rintro e w5 ⟨rfl, f5, k5⟩
        rw [hv] at f5 ⊢
        dsimp only at f5 ⊢
        have K5 : Below w.heap.size w w5 := k5.on (bel_al (bel_al K4 _) _) (by omega)
        have B0_5 : Arr w.heap.size [.int .i64 p.1, .int .i64 p.2.1, .int .i64 p.2.2] w5 := ((B0_4.alloc _).alloc _).kept k5 (by omega)
        have B1_5 : Arr (w.heap.size + 1) [.int .i64 q.1, .int .i64 q.2.1, .int .i64 q.2.2] w5 := ((B1_4.alloc _).alloc _).kept k5 (by omega)
        have B3_5 : Arr w4.heap.size [.int .i64 0, .int .i64 0, .int .i64 0] w5 := ((Arr_at _ _ [.int .i64 0, .int .i64 0, .int .i64 0] _ (by simp)).alloc _).kept k5 (by omega)
        have B4_5 : Arr (w4.heap.size + 1) [.int .i64 0, .int .i64 0, .int .i64 0] w5 := (Arr_at _ _ [.int .i64 0, .int .i64 0, .int .i64 0] _ (by simp)).kept k5 (by omega)
        have z5 := B4_5.lies
        clear hHeld
        refine hK.out _ _ ⟨B0_5, B1_5⟩ (fun hHeld => ?_)
        clear hK K K4 B0_4 B1_4 f4 k5
        refine call_at (i := 8) (by kernel_rfl) rfl (fun K hK => ?_)
        have c7_B3_0 : w5.cell? ⟨w4.heap.size, 0, none⟩ = some (.int .i64 0) := B3_5.c 0 (of_decide_eq_true rfl)
        have c7_B3_1 : w5.cell? ⟨w4.heap.size, 1, none⟩ = some (.int .i64 0) := B3_5.c 1 (of_decide_eq_true rfl)
        have c7_B3_2 : w5.cell? ⟨w4.heap.size, 2, none⟩ = some (.int .i64 0) := B3_5.c 2 (of_decide_eq_true rfl)
        have g7_B3_0 := B3_5.f 0 (of_decide_eq_true rfl)
        have g7_B3_1 := B3_5.f 1 (of_decide_eq_true rfl)
        have g7_B3_2 := B3_5.f 2 (of_decide_eq_true rfl)
        go_simp
        clear hHeld
        refine hK.out _ _ ⟨(((B0_5.new _ _ (by omega) _).new _ _ (by omega) _).new _ _ (by omega) _), (((B1_5.new _ _ (by omega) _).new _ _ (by omega) _).new _ _ (by omega) _)⟩ (fun hHeld => ?_)
        clear hK K c7_B3_0 c7_B3_1 c7_B3_2 g7_B3_0 g7_B3_1 g7_B3_2
        refine call_at (i := 9) (by kernel_rfl) rfl (fun K hK => ?_)
        have c8_B4_0 : w5.cell? ⟨w4.heap.size + 1, 0, none⟩ = some (.int .i64 0) := B4_5.c 0 (of_decide_eq_true rfl)
        have c8_B4_1 : w5.cell? ⟨w4.heap.size + 1, 1, none⟩ = some (.int .i64 0) := B4_5.c 1 (of_decide_eq_true rfl)
        have c8_B4_2 : w5.cell? ⟨w4.heap.size + 1, 2, none⟩ = some (.int .i64 0) := B4_5.c 2 (of_decide_eq_true rfl)
        have g8_B4_0 := B4_5.f 0 (of_decide_eq_true rfl)
        have g8_B4_1 := B4_5.f 1 (of_decide_eq_true rfl)
        have g8_B4_2 := B4_5.f 2 (of_decide_eq_true rfl)
        go_simp
        clear hHeld
        refine hK.out _ _ ⟨((((((B0_5.new _ _ (by omega) _).new _ _ (by omega) _).new _ _ (by omega) _).new _ _ (by omega) _).new _ _ (by omega) _).new _ _ (by omega) _), ((((((B1_5.new _ _ (by omega) _).new _ _ (by omega) _).new _ _ (by omega) _).new _ _ (by omega) _).new _ _ (by omega) _).new _ _ (by omega) _)⟩ (fun hHeld => ?_)
        clear hK K c8_B4_0 c8_B4_1 c8_B4_2 g8_B4_0 g8_B4_1 g8_B4_2
        refine wpAnyH_done (by kernel_rfl) ?_ _
        clear hHeld
        exact cont1 _ _ _ _ _ _ _ _ _ _ _ _ _ _ _ _ _ _ _ _ _ _ _ _ _ _ _ w4.heap.size (w4.heap.size + 1) (bel_new (bel_new (bel_new (bel_new (bel_new (bel_new K5 _ _ (by omega) _) _ _ (by omega) _) _ _ (by omega) _) _ _ (by omega) _) _ _ (by omega) _) _ _ (by omega) _) ((((((B0_5.new _ _ (by omega) _).new _ _ (by omega) _).new _ _ (by omega) _).new _ _ (by omega) _).new _ _ (by omega) _).new _ _ (by omega) _) ((((((B1_5.new _ _ (by omega) _).new _ _ (by omega) _).new _ _ (by omega) _).new _ _ (by omega) _).new _ _ (by omega) _).new _ _ (by omega) _) ((((((f5.new _ _ (by omega) _).new _ _ (by omega) _).new _ _ (by omega) _).new _ _ (by omega) _).new _ _ (by omega) _).new _ _ (by omega) _) ((((((B3_5.put 0 (of_decide_eq_true rfl) (.int .i64 u0) [.int .i64 u0, .int .i64 0, .int .i64 0] rfl).put 1 (of_decide_eq_true rfl) (.int .i64 u1) [.int .i64 u0, .int .i64 u1, .int .i64 0] rfl).put 2 (of_decide_eq_true rfl) (.int .i64 u2) [.int .i64 u0, .int .i64 u1, .int .i64 u2] rfl).new _ _ (by omega) _).new _ _ (by omega) _).new _ _ (by omega) _) ((((((B4_5.new _ _ (by omega) _).new _ _ (by omega) _).new _ _ (by omega) _).put 0 (of_decide_eq_true rfl) (.int .i64 v0) [.int .i64 v0, .int .i64 0, .int .i64 0] rfl).put 1 (of_decide_eq_true rfl) (.int .i64 v1) [.int .i64 v0, .int .i64 v1, .int .i64 0] rfl).put 2 (of_decide_eq_true rfl) (.int .i64 v2) [.int .i64 v0, .int .i64 v1, .int .i64 v2] rfl) (by omega) (by omega) (by omega) (by omega) (by omega) (by omega) (by omega) (by omega) (by omega)
    · go_simp
      clear hHeld
      refine hK.out _ _ ⟨(B0_4.alloc _), (B1_4.alloc _)⟩ (fun hHeld => ?_)
      clear hK K
      refine call_at2 (i0 := 5) (i1 := 6) (by kernel_rfl) rfl rfl (fun K hK => ?_) (fun K hK => ?_)
      · go_simp
        refine (vUnit_any w1.heap.size false q _ (f4.alloc _)).mono ?_
        rintro e w5 ⟨rfl, f5, k5⟩
        rw [hv] at f5 ⊢
        dsimp only at f5 ⊢
        have K5 : Below w.heap.size w w5 := k5.on (bel_al K4 _) (by omega)
        have B0_5 : Arr w.heap.size [.int .i64 p.1, .int .i64 p.2.1, .int .i64 p.2.2] w5 := (B0_4.alloc _).kept k5 (by omega)
        have B1_5 : Arr (w.heap.size + 1) [.int .i64 q.1, .int .i64 q.2.1, .int .i64 q.2.2] w5 := (B1_4.alloc _).kept k5 (by omega)
        have B3_5 : Arr w4.heap.size [.int .i64 0, .int .i64 0, .int .i64 0] w5 := (Arr_at _ _ [.int .i64 0, .int .i64 0, .int .i64 0] _ (by simp)).kept k5 (by omega)
        have z5 := B3_5.lies
        clear hHeld
        refine hK.out _ _ ⟨B0_5, B1_5⟩ (fun hHeld => ?_)
        clear hK K K4 B0_4 B1_4 f4 k5
        refine call_at (i := 6) (by kernel_rfl) rfl (fun K hK => ?_)
        go_simp
        clear hHeld
        refine hK.out _ _ ⟨(B0_5.alloc _), (B1_5.alloc _)⟩ (fun hHeld => ?_)
        clear hK K
        refine call_at (i := 8) (by kernel_rfl) rfl (fun K hK => ?_)
        go_simp
        clear hHeld
        refine hK.out _ _ ⟨(B0_5.alloc _), (B1_5.alloc _)⟩ (fun hHeld => ?_)
        clear hK K
        refine call_at (i := 9) (by kernel_rfl) rfl (fun K hK => ?_)
        have c8_B3_0 : w5.cell? ⟨w4.heap.size, 0, none⟩ = some (.int .i64 0) := B3_5.c 0 (of_decide_eq_true rfl)
        have c8_B3_1 : w5.cell? ⟨w4.heap.size, 1, none⟩ = some (.int .i64 0) := B3_5.c 1 (of_decide_eq_true rfl)
        have c8_B3_2 : w5.cell? ⟨w4.heap.size, 2, none⟩ = some (.int .i64 0) := B3_5.c 2 (of_decide_eq_true rfl)
        have g8_B3_0 := B3_5.f 0 (of_decide_eq_true rfl)
        have g8_B3_1 := B3_5.f 1 (of_decide_eq_true rfl)
        have g8_B3_2 := B3_5.f 2 (of_decide_eq_true rfl)
        have l8_B3 := B3_5.lies
        go_simp
        clear hHeld
        refine hK.out _ _ ⟨((((B0_5.new _ _ (by omega) _).new _ _ (by omega) _).new _ _ (by omega) _).alloc _), ((((B1_5.new _ _ (by omega) _).new _ _ (by omega) _).new _ _ (by omega) _).alloc _)⟩ (fun hHeld => ?_)
        clear hK K c8_B3_0 c8_B3_1 c8_B3_2 g8_B3_0 g8_B3_1 g8_B3_2 l8_B3
        refine wpAnyH_done (by kernel_rfl) ?_ _
        clear hHeld
        exact cont1 _ _ _ _ _ _ _ _ _ _ _ _ _ _ _ _ _ _ _ _ _ _ _ _ _ _ _ w5.heap.size w4.heap.size (bel_al (bel_new (bel_new (bel_new K5 _ _ (by omega) _) _ _ (by omega) _) _ _ (by omega) _) _) ((((B0_5.new _ _ (by omega) _).new _ _ (by omega) _).new _ _ (by omega) _).alloc _) ((((B1_5.new _ _ (by omega) _).new _ _ (by omega) _).new _ _ (by omega) _).alloc _) ((((f5.new _ _ (by omega) _).new _ _ (by omega) _).new _ _ (by omega) _).alloc _) (Arr_at _ _ [.int .i64 u0, .int .i64 u1, .int .i64 u2] _ (by simp)) ((((B3_5.put 0 (of_decide_eq_true rfl) (.int .i64 v0) [.int .i64 v0, .int .i64 0, .int .i64 0] rfl).put 1 (of_decide_eq_true rfl) (.int .i64 v1) [.int .i64 v0, .int .i64 v1, .int .i64 0] rfl).put 2 (of_decide_eq_true rfl) (.int .i64 v2) [.int .i64 v0, .int .i64 v1, .int .i64 v2] rfl).alloc _) (by omega) (by omega) (by omega) (by omega) (by omega) (by omega) (by omega) (by omega) (by omega)
      · go_simp
        clear hHeld
        refine hK.out _ _ ⟨((B0_4.alloc _).alloc _), ((B1_4.alloc _).alloc _)⟩ (fun hHeld => ?_)
        clear hK K
        refine call_at (i := 5) (by kernel_rfl) rfl (fun K hK => ?_)
        go_simp
        refine (vUnit_any w1.heap.size false q _ ((f4.alloc _).alloc _)).mono ?_
        rintro e w5 ⟨rfl, f5, k5⟩
        rw [hv] at f5 ⊢
        dsimp only at f5 ⊢
        have K5 : Below w.heap.size w w5 := k5.on (bel_al (bel_al K4 _) _) (by omega)
        have B0_5 : Arr w.heap.size [.int .i64 p.1, .int .i64 p.2.1, .int .i64 p.2.2] w5 := ((B0_4.alloc _).alloc _).kept k5 (by omega)
        have B1_5 : Arr (w.heap.size + 1) [.int .i64 q.1, .int .i64 q.2.1, .int .i64 q.2.2] w5 := ((B1_4.alloc _).alloc _).kept k5 (by omega)
        have B3_5 : Arr w4.heap.size [.int .i64 0, .int .i64 0, .int .i64 0] w5 := ((Arr_at _ _ [.int .i64 0, .int .i64 0, .int .i64 0] _ (by simp)).alloc _).kept k5 (by omega)
        have B4_5 : Arr (w4.heap.size + 1) [.int .i64 0, .int .i64 0, .int .i64 0] w5 := (Arr_at _ _ [.int .i64 0, .int .i64 0, .int .i64 0] _ (by simp)).kept k5 (by omega)
        have z5 := B4_5.lies
        clear hHeld
        refine hK.out _ _ ⟨B0_5, B1_5⟩ (fun hHeld => ?_)
        clear hK K K4 B0_4 B1_4 f4 k5
        refine call_at (i := 8) (by kernel_rfl) rfl (fun K hK => ?_)
        have c7_B4_0 : w5.cell? ⟨w4.heap.size + 1, 0, none⟩ = some (.int .i64 0) := B4_5.c 0 (of_decide_eq_true rfl)
        have c7_B4_1 : w5.cell? ⟨w4.heap.size + 1, 1, none⟩ = some (.int .i64 0) := B4_5.c 1 (of_decide_eq_true rfl)
        have c7_B4_2 : w5.cell? ⟨w4.heap.size + 1, 2, none⟩ = some (.int .i64 0) := B4_5.c 2 (of_decide_eq_true rfl)
        have g7_B4_0 := B4_5.f 0 (of_decide_eq_true rfl)
        have g7_B4_1 := B4_5.f 1 (of_decide_eq_true rfl)
        have g7_B4_2 := B4_5.f 2 (of_decide_eq_true rfl)
        go_simp
        clear hHeld
        refine hK.out _ _ ⟨(((B0_5.new _ _ (by omega) _).new _ _ (by omega) _).new _ _ (by omega) _), (((B1_5.new _ _ (by omega) _).new _ _ (by omega) _).new _ _ (by omega) _)⟩ (fun hHeld => ?_)
        clear hK K c7_B4_0 c7_B4_1 c7_B4_2 g7_B4_0 g7_B4_1 g7_B4_2
        refine call_at (i := 9) (by kernel_rfl) rfl (fun K hK => ?_)
        have c8_B3_0 : w5.cell? ⟨w4.heap.size, 0, none⟩ = some (.int .i64 0) := B3_5.c 0 (of_decide_eq_true rfl)
        have c8_B3_1 : w5.cell? ⟨w4.heap.size, 1, none⟩ = some (.int .i64 0) := B3_5.c 1 (of_decide_eq_true rfl)
        have c8_B3_2 : w5.cell? ⟨w4.heap.size, 2, none⟩ = some (.int .i64 0) := B3_5.c 2 (of_decide_eq_true rfl)
        have g8_B3_0 := B3_5.f 0 (of_decide_eq_true rfl)
        have g8_B3_1 := B3_5.f 1 (of_decide_eq_true rfl)
        have g8_B3_2 := B3_5.f 2 (of_decide_eq_true rfl)
        go_simp
        clear hHeld
        refine hK.out _ _ ⟨((((((B0_5.new _ _ (by omega) _).new _ _ (by omega) _).new _ _ (by omega) _).new _ _ (by omega) _).new _ _ (by omega) _).new _ _ (by omega) _), ((((((B1_5.new _ _ (by omega) _).new _ _ (by omega) _).new _ _ (by omega) _).new _ _ (by omega) _).new _ _ (by omega) _).new _ _ (by omega) _)⟩ (fun hHeld => ?_)
        clear hK K c8_B3_0 c8_B3_1 c8_B3_2 g8_B3_0 g8_B3_1 g8_B3_2
        refine wpAnyH_done (by kernel_rfl) ?_ _
        clear hHeld
        exact cont1 _ _ _ _ _ _ _ _ _ _ _ _ _ _ _ _ _ _ _ _ _ _ _ _ _ _ _ (w4.heap.size + 1) w4.heap.size (bel_new (bel_new (bel_new (bel_new (bel_new (bel_new K5 _ _ (by omega) _) _ _ (by omega) _) _ _ (by omega) _) _ _ (by omega) _) _ _ (by omega) _) _ _ (by omega) _) ((((((B0_5.new _ _ (by omega) _).new _ _ (by omega) _).new _ _ (by omega) _).new _ _ (by omega) _).new _ _ (by omega) _).new _ _ (by omega) _) ((((((B1_5.new _ _ (by omega) _).new _ _ (by omega) _).new _ _ (by omega) _).new _ _ (by omega) _).new _ _ (by omega) _).new _ _ (by omega) _) ((((((f5.new _ _ (by omega) _).new _ _ (by omega) _).new _ _ (by omega) _).new _ _ (by omega) _).new _ _ (by omega) _).new _ _ (by omega) _) ((((((B4_5.put 0 (of_decide_eq_true rfl) (.int .i64 u0) [.int .i64 u0, .int .i64 0, .int .i64 0] rfl).put 1 (of_decide_eq_true rfl) (.int .i64 u1) [.int .i64 u0, .int .i64 u1, .int .i64 0] rfl).put 2 (of_decide_eq_true rfl) (.int .i64 u2) [.int .i64 u0, .int .i64 u1, .int .i64 u2] rfl).new _ _ (by omega) _).new _ _ (by omega) _).new _ _ (by omega) _) ((((((B3_5.new _ _ (by omega) _).new _ _ (by omega) _).new _ _ (by omega) _).put 0 (of_decide_eq_true rfl) (.int .i64 v0) [.int .i64 v0, .int .i64 0, .int .i64 0] rfl).put 1 (of_decide_eq_true rfl) (.int .i64 v1) [.int .i64 v0, .int .i64 v1, .int .i64 0] rfl).put 2 (of_decide_eq_true rfl) (.int .i64 v2) [.int .i64 v0, .int .i64 v1, .int .i64 v2] rfl) (by omega) (by omega) (by omega) (by omega) (by omega) (by omega) (by omega) (by omega) (by omega)
  · go_simp
    clear hHeld
    refine hK.out _ _ ⟨(B0_3.drew.alloc _), (B1_3.drew.alloc _)⟩ (fun hHeld => ?_)
    clear hK K
    refine call_at2 (i0 := 2) (i1 := 7) (by kernel_rfl) rfl rfl (fun K hK => ?_) (fun K hK => ?_)
    · go_simp
      refine (vUnit_any w1.heap.size false p _ (f3.drew.alloc _)).mono ?_
      rintro e w4 ⟨rfl, f4, k4⟩
      rw [hu] at f4 ⊢
      dsimp only at f4 ⊢
      have K4 : Below w.heap.size w w4 := k4.on (bel_al (Below.drew K3) _) (by omega)
      have B0_4 : Arr w.heap.size [.int .i64 p.1, .int .i64 p.2.1, .int .i64 p.2.2] w4 := (B0_3.drew.alloc _).kept k4 (by omega)
      have B1_4 : Arr (w.heap.size + 1) [.int .i64 q.1, .int .i64 q.2.1, .int .i64 q.2.2] w4 := (B1_3.drew.alloc _).kept k4 (by omega)
      have B3_4 : Arr w3.heap.size [.int .i64 0, .int .i64 0, .int .i64 0] w4 := (Arr_at _ _ [.int .i64 0, .int .i64 0, .int .i64 0] _ (by simp)).kept k4 (by omega)
      have z4 := B3_4.lies
      clear hHeld
      refine hK.out _ _ ⟨B0_4, B1_4⟩ (fun hHeld => ?_)
      clear hK K K3 B0_3 B1_3 f3 k4
      refine call_at2 (i0 := 5) (i1 := 7) (by kernel_rfl) rfl rfl (fun K hK => ?_) (fun K hK => ?_)
      · go_simp
        refine (vUnit_any w1.heap.size false q _ f4).mono ?_
        rintro e w5 ⟨rfl, f5, k5⟩
        rw [hv] at f5 ⊢
        dsimp only at f5 ⊢
        have K5 : Below w.heap.size w w5 := k5.on K4 (by omega)
        have B0_5 : Arr w.heap.size [.int .i64 p.1, .int .i64 p.2.1, .int .i64 p.2.2] w5 := B0_4.kept k5 (by omega)
        have B1_5 : Arr (w.heap.size + 1) [.int .i64 q.1, .int .i64 q.2.1, .int .i64 q.2.2] w5 := B1_4.kept k5 (by omega)
        have B3_5 : Arr w3.heap.size [.int .i64 0, .int .i64 0, .int .i64 0] w5 := B3_4.kept k5 (by omega)
        have z5 := B3_5.lies
        clear hHeld
        refine hK.out _ _ ⟨B0_5, B1_5⟩ (fun hHeld => ?_)
        clear hK K K4 B0_4 B1_4 f4 B3_4 k5
        refine call_at (i := 7) (by kernel_rfl) rfl (fun K hK => ?_)
        go_simp
        clear hHeld
        refine hK.out _ _ ⟨(B0_5.alloc _), (B1_5.alloc _)⟩ (fun hHeld => ?_)
        clear hK K
        refine call_at (i := 8) (by kernel_rfl) rfl (fun K hK => ?_)
        have c7_B3_0 : w5.cell? ⟨w3.heap.size, 0, none⟩ = some (.int .i64 0) := B3_5.c 0 (of_decide_eq_true rfl)
        have c7_B3_1 : w5.cell? ⟨w3.heap.size, 1, none⟩ = some (.int .i64 0) := B3_5.c 1 (of_decide_eq_true rfl)
        have c7_B3_2 : w5.cell? ⟨w3.heap.size, 2, none⟩ = some (.int .i64 0) := B3_5.c 2 (of_decide_eq_true rfl)
        have g7_B3_0 := B3_5.f 0 (of_decide_eq_true rfl)
        have g7_B3_1 := B3_5.f 1 (of_decide_eq_true rfl)
        have g7_B3_2 := B3_5.f 2 (of_decide_eq_true rfl)
        have l7_B3 := B3_5.lies
        go_simp
        clear hHeld
        refine hK.out _ _ ⟨((((B0_5.new _ _ (by omega) _).new _ _ (by omega) _).new _ _ (by omega) _).alloc _), ((((B1_5.new _ _ (by omega) _).new _ _ (by omega) _).new _ _ (by omega) _).alloc _)⟩ (fun hHeld => ?_)
        clear hK K c7_B3_0 c7_B3_1 c7_B3_2 g7_B3_0 g7_B3_1 g7_B3_2 l7_B3
        refine call_at (i := 9) (by kernel_rfl) rfl (fun K hK => ?_)
        go_simp
        clear hHeld
        refine hK.out _ _ ⟨((((B0_5.new _ _ (by omega) _).new _ _ (by omega) _).new _ _ (by omega) _).alloc _), ((((B1_5.new _ _ (by omega) _).new _ _ (by omega) _).new _ _ (by omega) _).alloc _)⟩ (fun hHeld => ?_)
        clear hK K
        refine wpAnyH_done (by kernel_rfl) ?_ _
        clear hHeld
        exact cont1 _ _ _ _ _ _ _ _ _ _ _ _ _ _ _ _ _ _ _ _ _ _ _ _ _ _ _ w3.heap.size w5.heap.size (bel_al (bel_new (bel_new (bel_new K5 _ _ (by omega) _) _ _ (by omega) _) _ _ (by omega) _) _) ((((B0_5.new _ _ (by omega) _).new _ _ (by omega) _).new _ _ (by omega) _).alloc _) ((((B1_5.new _ _ (by omega) _).new _ _ (by omega) _).new _ _ (by omega) _).alloc _) ((((f5.new _ _ (by omega) _).new _ _ (by omega) _).new _ _ (by omega) _).alloc _) ((((B3_5.put 0 (of_decide_eq_true rfl) (.int .i64 u0) [.int .i64 u0, .int .i64 0, .int .i64 0] rfl).put 1 (of_decide_eq_true rfl) (.int .i64 u1) [.int .i64 u0, .int .i64 u1, .int .i64 0] rfl).put 2 (of_decide_eq_true rfl) (.int .i64 u2) [.int .i64 u0, .int .i64 u1, .int .i64 u2] rfl).alloc _) (Arr_at _ _ [.int .i64 v0, .int .i64 v1, .int .i64 v2] _ (by simp)) (by omega) (by omega) (by omega) (by omega) (by omega) (by omega) (by omega) (by omega) (by omega)
      · go_simp
        clear hHeld
        refine hK.out _ _ ⟨(B0_4.alloc _), (B1_4.alloc _)⟩ (fun hHeld => ?_)
        clear hK K
        refine call_at (i := 5) (by kernel_rfl) rfl (fun K hK => ?_)
        go_simp
        refine (vUnit_any w1.heap.size false q _ (f4.alloc _)).mono ?_
        rintro e w5 ⟨rfl, f5, k5⟩
        rw [hv] at f5 ⊢
        dsimp only at f5 ⊢
        have K5 : Below w.heap.size w w5 := k5.on (bel_al K4 _) (by omega)
        have B0_5 : Arr w.heap.size [.int .i64 p.1, .int .i64 p.2.1, .int .i64 p.2.2] w5 := (B0_4.alloc _).kept k5 (by omega)
        have B1_5 : Arr (w.heap.size + 1) [.int .i64 q.1, .int .i64 q.2.1, .int .i64 q.2.2] w5 := (B1_4.alloc _).kept k5 (by omega)
        have B3_5 : Arr w3.heap.size [.int .i64 0, .int .i64 0, .int .i64 0] w5 := (B3_4.alloc _).kept k5 (by omega)
        have B4_5 : Arr w4.heap.size [.int .i64 0, .int .i64 0, .int .i64 0] w5 := (Arr_at _ _ [.int .i64 0, .int .i64 0, .int .i64 0] _ (by simp)).kept k5 (by omega)
        have z5 := B4_5.lies
        clear hHeld
        refine hK.out _ _ ⟨B0_5, B1_5⟩ (fun hHeld => ?_)
        clear hK K K4 B0_4 B1_4 f4 B3_4 k5
        refine call_at (i := 8) (by kernel_rfl) rfl (fun K hK => ?_)
        have c7_B3_0 : w5.cell? ⟨w3.heap.size, 0, none⟩ = some (.int .i64 0) := B3_5.c 0 (of_decide_eq_true rfl)
        have c7_B3_1 : w5.cell? ⟨w3.heap.size, 1, none⟩ = some (.int .i64 0) := B3_5.c 1 (of_decide_eq_true rfl)
        have c7_B3_2 : w5.cell? ⟨w3.heap.size, 2, none⟩ = some (.int .i64 0) := B3_5.c 2 (of_decide_eq_true rfl)
        have g7_B3_0 := B3_5.f 0 (of_decide_eq_true rfl)
        have g7_B3_1 := B3_5.f 1 (of_decide_eq_true rfl)
        have g7_B3_2 := B3_5.f 2 (of_decide_eq_true rfl)
        go_simp
        clear hHeld
        refine hK.out _ _ ⟨(((B0_5.new _ _ (by omega) _).new _ _ (by omega) _).new _ _ (by omega) _), (((B1_5.new _ _ (by omega) _).new _ _ (by omega) _).new _ _ (by omega) _)⟩ (fun hHeld => ?_)
        clear hK K c7_B3_0 c7_B3_1 c7_B3_2 g7_B3_0 g7_B3_1 g7_B3_2
        refine call_at (i := 9) (by kernel_rfl) rfl (fun K hK => ?_)
        have c8_B4_0 : w5.cell? ⟨w4.heap.size, 0, none⟩ = some (.int .i64 0) := B4_5.c 0 (of_decide_eq_true rfl)
        have c8_B4_1 : w5.cell? ⟨w4.heap.size, 1, none⟩ = some (.int .i64 0) := B4_5.c 1 (of_decide_eq_true rfl)
        have c8_B4_2 : w5.cell? ⟨w4.heap.size, 2, none⟩ = some (.int .i64 0) := B4_5.c 2 (of_decide_eq_true rfl)
        have g8_B4_0 := B4_5.f 0 (of_decide_eq_true rfl)
        have g8_B4_1 := B4_5.f 1 (of_decide_eq_true rfl)
        have g8_B4_2 := B4_5.f 2 (of_decide_eq_true rfl)
        go_simp
        clear hHeld
        refine hK.out _ _ ⟨((((((B0_5.new _ _ (by omega) _).new _ _ (by omega) _).new _ _ (by omega) _).new _ _ (by omega) _).new _ _ (by omega) _).new _ _ (by omega) _), ((((((B1_5.new _ _ (by omega) _).new _ _ (by omega) _).new _ _ (by omega) _).new _ _ (by omega) _).new _ _ (by omega) _).new _ _ (by omega) _)⟩ (fun hHeld => ?_)
        clear hK K c8_B4_0 c8_B4_1 c8_B4_2 g8_B4_0 g8_B4_1 g8_B4_2
        refine wpAnyH_done (by kernel_rfl) ?_ _
        clear hHeld
        exact cont1 _ _ _ _ _ _ _ _ _ _ _ _ _ _ _ _ _ _ _ _ _ _ _ _ _ _ _ w3.heap.size w4.heap.size (bel_new (bel_new (bel_new (bel_new (bel_new (bel_new K5 _ _ (by omega) _) _ _ (by omega) _) _ _ (by omega) _) _ _ (by omega) _) _ _ (by omega) _) _ _ (by omega) _) ((((((B0_5.new _ _ (by omega) _).new _ _ (by omega) _).new _ _ (by omega) _).new _ _ (by omega) _).new _ _ (by omega) _).new _ _ (by omega) _) ((((((B1_5.new _ _ (by omega) _).new _ _ (by omega) _).new _ _ (by omega) _).new _ _ (by omega) _).new _ _ (by omega) _).new _ _ (by omega) _) ((((((f5.new _ _ (by omega) _).new _ _ (by omega) _).new _ _ (by omega) _).new _ _ (by omega) _).new _ _ (by omega) _).new _ _ (by omega) _) ((((((B3_5.put 0 (of_decide_eq_true rfl) (.int .i64 u0) [.int .i64 u0, .int .i64 0, .int .i64 0] rfl).put 1 (of_decide_eq_true rfl) (.int .i64 u1) [.int .i64 u0, .int .i64 u1, .int .i64 0] rfl).put 2 (of_decide_eq_true rfl) (.int .i64 u2) [.int .i64 u0, .int .i64 u1, .int .i64 u2] rfl).new _ _ (by omega) _).new _ _ (by omega) _).new _ _ (by omega) _) ((((((B4_5.new _ _ (by omega) _).new _ _ (by omega) _).new _ _ (by omega) _).put 0 (of_decide_eq_true rfl) (.int .i64 v0) [.int .i64 v0, .int .i64 0, .int .i64 0] rfl).put 1 (of_decide_eq_true rfl) (.int .i64 v1) [.int .i64 v0, .int .i64 v1, .int .i64 0] rfl).put 2 (of_decide_eq_true rfl) (.int .i64 v2) [.int .i64 v0, .int .i64 v1, .int .i64 v2] rfl) (by omega) (by omega) (by omega) (by omega) (by omega) (by omega) (by omega) (by omega) (by omega)
    · go_simp
      clear hHeld
      refine hK.out _ _ ⟨((B0_3.drew.alloc _).alloc _), ((B1_3.drew.alloc _).alloc _)⟩ (fun hHeld => ?_)
      clear hK K
      refine call_at (i := 2) (by kernel_rfl) rfl (fun K hK => ?_)
      go_simp
      refine (vUnit_any w1.heap.size false p _ ((f3.drew.alloc _).alloc _)).mono ?_
      rintro e w4 ⟨rfl, f4, k4⟩
      rw [hu] at f4 ⊢
      dsimp only at f4 ⊢
      have K4 : Below w.heap.size w w4 := k4.on (bel_al (bel_al (Below.drew K3) _) _) (by omega)
      have B0_4 : Arr w.heap.size [.int .i64 p.1, .int .i64 p.2.1, .int .i64 p.2.2] w4 := ((B0_3.drew.alloc _).alloc _).kept k4 (by omega)
      have B1_4 : Arr (w.heap.size + 1) [.int .i64 q.1, .int .i64 q.2.1, .int .i64 q.2.2] w4 := ((B1_3.drew.alloc _).alloc _).kept k4 (by omega)
      have B3_4 : Arr w3.heap.size [.int .i64 0, .int .i64 0, .int .i64 0] w4 := ((Arr_at _ _ [.int .i64 0, .int .i64 0, .int .i64 0] _ (by simp)).alloc _).kept k4 (by omega)
      have B4_4 : Arr (w3.heap.size + 1) [.int .i64 0, .int .i64 0, .int .i64 0] w4 := (Arr_at _ _ [.int .i64 0, .int .i64 0, .int .i64 0] _ (by simp)).kept k4 (by omega)
      have z4 := B4_4.lies
      clear hHeld
      refine hK.out _ _ ⟨B0_4, B1_4⟩ (fun hHeld => ?_)
      clear hK K K3 B0_3 B1_3 f3 k4
      refine call_at (i := 5) (by kernel_rfl) rfl (fun K hK => ?_)
      go_simp
      refine (vUnit_any w1.heap.size false q _ f4).mono ?_
      rintro e w5 ⟨rfl, f5, k5⟩
      rw [hv] at f5 ⊢
      dsimp only at f5 ⊢
      have K5 : Below w.heap.size w w5 := k5.on K4 (by omega)
      have B0_5 : Arr w.heap.size [.int .i64 p.1, .int .i64 p.2.1, .int .i64 p.2.2] w5 := B0_4.kept k5 (by omega)
      have B1_5 : Arr (w.heap.size + 1) [.int .i64 q.1, .int .i64 q.2.1, .int .i64 q.2.2] w5 := B1_4.kept k5 (by omega)
      have B3_5 : Arr w3.heap.size [.int .i64 0, .int .i64 0, .int .i64 0] w5 := B3_4.kept k5 (by omega)
      have B4_5 : Arr (w3.heap.size + 1) [.int .i64 0, .int .i64 0, .int .i64 0] w5 := B4_4.kept k5 (by omega)
      have z5 := B4_5.lies
      clear hHeld
      refine hK.out _ _ ⟨B0_5, B1_5⟩ (fun hHeld => ?_)
      clear hK K K4 B0_4 B1_4 f4 B3_4 B4_4 k5
      refine call_at (i := 8) (by kernel_rfl) rfl (fun K hK => ?_)
      have c7_B3_0 : w5.cell? ⟨w3.heap.size, 0, none⟩ = some (.int .i64 0) := B3_5.c 0 (of_decide_eq_true rfl)
      have c7_B3_1 : w5.cell? ⟨w3.heap.size, 1, none⟩ = some (.int .i64 0) := B3_5.c 1 (of_decide_eq_true rfl)
      have c7_B3_2 : w5.cell? ⟨w3.heap.size, 2, none⟩ = some (.int .i64 0) := B3_5.c 2 (of_decide_eq_true rfl)
      have g7_B3_0 := B3_5.f 0 (of_decide_eq_true rfl)
      have g7_B3_1 := B3_5.f 1 (of_decide_eq_true rfl)
      have g7_B3_2 := B3_5.f 2 (of_decide_eq_true rfl)
      go_simp
      clear hHeld
      refine hK.out _ _ ⟨(((B0_5.new _ _ (by omega) _).new _ _ (by omega) _).new _ _ (by omega) _), (((B1_5.new _ _ (by omega) _).new _ _ (by omega) _).new _ _ (by omega) _)⟩ (fun hHeld => ?_)
      clear hK K c7_B3_0 c7_B3_1 c7_B3_2 g7_B3_0 g7_B3_1 g7_B3_2
      refine call_at (i := 9) (by kernel_rfl) rfl (fun K hK => ?_)
      have c8_B4_0 : w5.cell? ⟨w3.heap.size + 1, 0, none⟩ = some (.int .i64 0) := B4_5.c 0 (of_decide_eq_true rfl)
      have c8_B4_1 : w5.cell? ⟨w3.heap.size + 1, 1, none⟩ = some (.int .i64 0) := B4_5.c 1 (of_decide_eq_true rfl)
      have c8_B4_2 : w5.cell? ⟨w3.heap.size + 1, 2, none⟩ = some (.int .i64 0) := B4_5.c 2 (of_decide_eq_true rfl)
      have g8_B4_0 := B4_5.f 0 (of_decide_eq_true rfl)
      have g8_B4_1 := B4_5.f 1 (of_decide_eq_true rfl)
      have g8_B4_2 := B4_5.f 2 (of_decide_eq_true rfl)
      go_simp
      clear hHeld
      refine hK.out _ _ ⟨((((((B0_5.new _ _ (by omega) _).new _ _ (by omega) _).new _ _ (by omega) _).new _ _ (by omega) _).new _ _ (by omega) _).new _ _ (by omega) _), ((((((B1_5.new _ _ (by omega) _).new _ _ (by omega) _).new _ _ (by omega) _).new _ _ (by omega) _).new _ _ (by omega) _).new _ _ (by omega) _)⟩ (fun hHeld => ?_)
      clear hK K c8_B4_0 c8_B4_1 c8_B4_2 g8_B4_0 g8_B4_1 g8_B4_2
      refine wpAnyH_done (by kernel_rfl) ?_ _
      clear hHeld
      exact cont1 _ _ _ _ _ _ _ _ _ _ _ _ _ _ _ _ _ _ _ _ _ _ _ _ _ _ _ w3.heap.size (w3.heap.size + 1) (bel_new (bel_new (bel_new (bel_new (bel_new (bel_new K5 _ _ (by omega) _) _ _ (by omega) _) _ _ (by omega) _) _ _ (by omega) _) _ _ (by omega) _) _ _ (by omega) _) ((((((B0_5.new _ _ (by omega) _).new _ _ (by omega) _).new _ _ (by omega) _).new _ _ (by omega) _).new _ _ (by omega) _).new _ _ (by omega) _) ((((((B1_5.new _ _ (by omega) _).new _ _ (by omega) _).new _ _ (by omega) _).new _ _ (by omega) _).new _ _ (by omega) _).new _ _ (by omega) _) ((((((f5.new _ _ (by omega) _).new _ _ (by omega) _).new _ _ (by omega) _).new _ _ (by omega) _).new _ _ (by omega) _).new _ _ (by omega) _) ((((((B3_5.put 0 (of_decide_eq_true rfl) (.int .i64 u0) [.int .i64 u0, .int .i64 0, .int .i64 0] rfl).put 1 (of_decide_eq_true rfl) (.int .i64 u1) [.int .i64 u0, .int .i64 u1, .int .i64 0] rfl).put 2 (of_decide_eq_true rfl) (.int .i64 u2) [.int .i64 u0, .int .i64 u1, .int .i64 u2] rfl).new _ _ (by omega) _).new _ _ (by omega) _).new _ _ (by omega) _) ((((((B4_5.new _ _ (by omega) _).new _ _ (by omega) _).new _ _ (by omega) _).put 0 (of_decide_eq_true rfl) (.int .i64 v0) [.int .i64 v0, .int .i64 0, .int .i64 0] rfl).put 1 (of_decide_eq_true rfl) (.int .i64 v1) [.int .i64 v0, .int .i64 v1, .int .i64 0] rfl).put 2 (of_decide_eq_true rfl) (.int .i64 v2) [.int .i64 v0, .int .i64 v1, .int .i64 v2] rfl) (by omega) (by omega) (by omega) (by omega) (by omega) (by omega) (by omega) (by omega) (by omega)
  · go_simp
    clear hHeld
    refine hK.out _ _ ⟨(B0_3.drew.alloc _), (B1_3.drew.alloc _)⟩ (fun hHeld => ?_)
    clear hK K
    refine call_at2 (i0 := 2) (i1 := 6) (by kernel_rfl) rfl rfl (fun K hK => ?_) (fun K hK => ?_)
    · go_simp
      refine (vUnit_any w1.heap.size false p _ (f3.drew.alloc _)).mono ?_
      rintro e w4 ⟨rfl, f4, k4⟩
      rw [hu] at f4 ⊢
      dsimp only at f4 ⊢
      have K4 : Below w.heap.size w w4 := k4.on (bel_al (Below.drew K3) _) (by omega)
      have B0_4 : Arr w.heap.size [.int .i64 p.1, .int .i64 p.2.1, .int .i64 p.2.2] w4 := (B0_3.drew.alloc _).kept k4 (by omega)
      have B1_4 : Arr (w.heap.size + 1) [.int .i64 q.1, .int .i64 q.2.1, .int .i64 q.2.2] w4 := (B1_3.drew.alloc _).kept k4 (by omega)
      have B3_4 : Arr w3.heap.size [.int .i64 0, .int .i64 0, .int .i64 0] w4 := (Arr_at _ _ [.int .i64 0, .int .i64 0, .int .i64 0] _ (by simp)).kept k4 (by omega)
      have z4 := B3_4.lies
      clear hHeld
      refine hK.out _ _ ⟨B0_4, B1_4⟩ (fun hHeld => ?_)
      clear hK K K3 B0_3 B1_3 f3 k4
      refine call_at2 (i0 := 5) (i1 := 6) (by kernel_rfl) rfl rfl (fun K hK => ?_) (fun K hK => ?_)
      · go_simp
        refine (vUnit_any w1.heap.size false q _ f4).mono ?_
        rintro e w5 ⟨rfl, f5, k5⟩
        rw [hv] at f5 ⊢
        dsimp only at f5 ⊢
        have K5 : Below w.heap.size w w5 := k5.on K4 (by omega)
        have B0_5 : Arr w.heap.size [.int .i64 p.1, .int .i64 p.2.1, .int .i64 p.2.2] w5 := B0_4.kept k5 (by omega)
        have B1_5 : Arr (w.heap.size + 1) [.int .i64 q.1, .int .i64 q.2.1, .int .i64 q.2.2] w5 := B1_4.kept k5 (by omega)
        have B3_5 : Arr w3.heap.size [.int .i64 0, .int .i64 0, .int .i64 0] w5 := B3_4.kept k5 (by omega)
        have z5 := B3_5.lies
        clear hHeld
        refine hK.out _ _ ⟨B0_5, B1_5⟩ (fun hHeld => ?_)
        clear hK K K4 B0_4 B1_4 f4 B3_4 k5
        refine call_at (i := 6) (by kernel_rfl) rfl (fun K hK => ?_)
        go_simp
        clear hHeld
        refine hK.out _ _ ⟨(B0_5.alloc _), (B1_5.alloc _)⟩ (fun hHeld => ?_)
        clear hK K
        refine call_at (i := 8) (by kernel_rfl) rfl (fun K hK => ?_)
        go_simp
        clear hHeld
        refine hK.out _ _ ⟨(B0_5.alloc _), (B1_5.alloc _)⟩ (fun hHeld => ?_)
        clear hK K
        refine call_at (i := 9) (by kernel_rfl) rfl (fun K hK => ?_)
        have c8_B3_0 : w5.cell? ⟨w3.heap.size, 0, none⟩ = some (.int .i64 0) := B3_5.c 0 (of_decide_eq_true rfl)
        have c8_B3_1 : w5.cell? ⟨w3.heap.size, 1, none⟩ = some (.int .i64 0) := B3_5.c 1 (of_decide_eq_true rfl)
        have c8_B3_2 : w5.cell? ⟨w3.heap.size, 2, none⟩ = some (.int .i64 0) := B3_5.c 2 (of_decide_eq_true rfl)
        have g8_B3_0 := B3_5.f 0 (of_decide_eq_true rfl)
        have g8_B3_1 := B3_5.f 1 (of_decide_eq_true rfl)
        have g8_B3_2 := B3_5.f 2 (of_decide_eq_true rfl)
        have l8_B3 := B3_5.lies
        go_simp
        clear hHeld
        refine hK.out _ _ ⟨((((B0_5.new _ _ (by omega) _).new _ _ (by omega) _).new _ _ (by omega) _).alloc _), ((((B1_5.new _ _ (by omega) _).new _ _ (by omega) _).new _ _ (by omega) _).alloc _)⟩ (fun hHeld => ?_)
        clear hK K c8_B3_0 c8_B3_1 c8_B3_2 g8_B3_0 g8_B3_1 g8_B3_2 l8_B3
        refine wpAnyH_done (by kernel_rfl) ?_ _
        clear hHeld
        exact cont1 _ _ _ _ _ _ _ _ _ _ _ _ _ _ _ _ _ _ _ _ _ _ _ _ _ _ _ w5.heap.size w3.heap.size (bel_al (bel_new (bel_new (bel_new K5 _ _ (by omega) _) _ _ (by omega) _) _ _ (by omega) _) _) ((((B0_5.new _ _ (by omega) _).new _ _ (by omega) _).new _ _ (by omega) _).alloc _) ((((B1_5.new _ _ (by omega) _).new _ _ (by omega) _).new _ _ (by omega) _).alloc _) ((((f5.new _ _ (by omega) _).new _ _ (by omega) _).new _ _ (by omega) _).alloc _) (Arr_at _ _ [.int .i64 u0, .int .i64 u1, .int .i64 u2] _ (by simp)) ((((B3_5.put 0 (of_decide_eq_true rfl) (.int .i64 v0) [.int .i64 v0, .int .i64 0, .int .i64 0] rfl).put 1 (of_decide_eq_true rfl) (.int .i64 v1) [.int .i64 v0, .int .i64 v1, .int .i64 0] rfl).put 2 (of_decide_eq_true rfl) (.int .i64 v2) [.int .i64 v0, .int .i64 v1, .int .i64 v2] rfl).alloc _) (by omega) (by omega) (by omega) (by omega) (by omega) (by omega) (by omega) (by omega) (by omega)
      · go_simp
        clear hHeld
        refine hK.out _ _ ⟨(B0_4.alloc _), (B1_4.alloc _)⟩ (fun hHeld => ?_)
        clear hK K
        refine call_at (i := 5) (by kernel_rfl) rfl (fun K hK => ?_)
        go_simp
        refine (vUnit_any w1.heap.size false q _ (f4.alloc _)).mono ?_
        rintro e w5 ⟨rfl, f5, k5⟩
        rw [hv] at f5 ⊢
        dsimp only at f5 ⊢
        have K5 : Below w.heap.size w w5 := k5.on (bel_al K4 _) (by omega)
        have B0_5 : Arr w.heap.size [.int .i64 p.1, .int .i64 p.2.1, .int .i64 p.2.2] w5 := (B0_4.alloc _).kept k5 (by omega)
        have B1_5 : Arr (w.heap.size + 1) [.int .i64 q.1, .int .i64 q.2.1, .int .i64 q.2.2] w5 := (B1_4.alloc _).kept k5 (by omega)
        have B3_5 : Arr w3.heap.size [.int .i64 0, .int .i64 0, .int .i64 0] w5 := (B3_4.alloc _).kept k5 (by omega)
        have B4_5 : Arr w4.heap.size [.int .i64 0, .int .i64 0, .int .i64 0] w5 := (Arr_at _ _ [.int .i64 0, .int .i64 0, .int .i64 0] _ (by simp)).kept k5 (by omega)
        have z5 := B4_5.lies
        clear hHeld
        refine hK.out _ _ ⟨B0_5, B1_5⟩ (fun hHeld => ?_)
        clear hK K K4 B0_4 B1_4 f4 B3_4 k5
        refine call_at (i := 8) (by kernel_rfl) rfl (fun K hK => ?_)
        have c7_B4_0 : w5.cell? ⟨w4.heap.size, 0, none⟩ = some (.int .i64 0) := B4_5.c 0 (of_decide_eq_true rfl)
        have c7_B4_1 : w5.cell? ⟨w4.heap.size, 1, none⟩ = some (.int .i64 0) := B4_5.c 1 (of_decide_eq_true rfl)
        have c7_B4_2 : w5.cell? ⟨w4.heap.size, 2, none⟩ = some (.int .i64 0) := B4_5.c 2 (of_decide_eq_true rfl)
        have g7_B4_0 := B4_5.f 0 (of_decide_eq_true rfl)
        have g7_B4_1 := B4_5.f 1 (of_decide_eq_true rfl)
        have g7_B4_2 := B4_5.f 2 (of_decide_eq_true rfl)
        go_simp
        clear hHeld
        refine hK.out _ _ ⟨(((B0_5.new _ _ (by omega) _).new _ _ (by omega) _).new _ _ (by omega) _), (((B1_5.new _ _ (by omega) _).new _ _ (by omega) _).new _ _ (by omega) _)⟩ (fun hHeld => ?_)
        clear hK K c7_B4_0 c7_B4_1 c7_B4_2 g7_B4_0 g7_B4_1 g7_B4_2
        refine call_at (i := 9) (by kernel_rfl) rfl (fun K hK => ?_)
        have c8_B3_0 : w5.cell? ⟨w3.heap.size, 0, none⟩ = some (.int .i64 0) := B3_5.c 0 (of_decide_eq_true rfl)
        have c8_B3_1 : w5.cell? ⟨w3.heap.size, 1, none⟩ = some (.int .i64 0) := B3_5.c 1 (of_decide_eq_true rfl)
        have c8_B3_2 : w5.cell? ⟨w3.heap.size, 2, none⟩ = some (.int .i64 0) := B3_5.c 2 (of_decide_eq_true rfl)
        have g8_B3_0 := B3_5.f 0 (of_decide_eq_true rfl)
        have g8_B3_1 := B3_5.f 1 (of_decide_eq_true rfl)
        have g8_B3_2 := B3_5.f 2 (of_decide_eq_true rfl)
        go_simp
        clear hHeld
        refine hK.out _ _ ⟨((((((B0_5.new _ _ (by omega) _).new _ _ (by omega) _).new _ _ (by omega) _).new _ _ (by omega) _).new _ _ (by omega) _).new _ _ (by omega) _), ((((((B1_5.new _ _ (by omega) _).new _ _ (by omega) _).new _ _ (by omega) _).new _ _ (by omega) _).new _ _ (by omega) _).new _ _ (by omega) _)⟩ (fun hHeld => ?_)
        clear hK K c8_B3_0 c8_B3_1 c8_B3_2 g8_B3_0 g8_B3_1 g8_B3_2
        refine wpAnyH_done (by kernel_rfl) ?_ _
        clear hHeld
        exact cont1 _ _ _ _ _ _ _ _ _ _ _ _ _ _ _ _ _ _ _ _ _ _ _ _ _ _ _ w4.heap.size w3.heap.size (bel_new (bel_new (bel_new (bel_new (bel_new (bel_new K5 _ _ (by omega) _) _ _ (by omega) _) _ _ (by omega) _) _ _ (by omega) _) _ _ (by omega) _) _ _ (by omega) _) ((((((B0_5.new _ _ (by omega) _).new _ _ (by omega) _).new _ _ (by omega) _).new _ _ (by omega) _).new _ _ (by omega) _).new _ _ (by omega) _) ((((((B1_5.new _ _ (by omega) _).new _ _ (by omega) _).new _ _ (by omega) _).new _ _ (by omega) _).new _ _ (by omega) _).new _ _ (by omega) _) ((((((f5.new _ _ (by omega) _).new _ _ (by omega) _).new _ _ (by omega) _).new _ _ (by omega) _).new _ _ (by omega) _).new _ _ (by omega) _) ((((((B4_5.put 0 (of_decide_eq_true rfl) (.int .i64 u0) [.int .i64 u0, .int .i64 0, .int .i64 0] rfl).put 1 (of_decide_eq_true rfl) (.int .i64 u1) [.int .i64 u0, .int .i64 u1, .int .i64 0] rfl).put 2 (of_decide_eq_true rfl) (.int .i64 u2) [.int .i64 u0, .int .i64 u1, .int .i64 u2] rfl).new _ _ (by omega) _).new _ _ (by omega) _).new _ _ (by omega) _) ((((((B3_5.new _ _ (by omega) _).new _ _ (by omega) _).new _ _ (by omega) _).put 0 (of_decide_eq_true rfl) (.int .i64 v0) [.int .i64 v0, .int .i64 0, .int .i64 0] rfl).put 1 (of_decide_eq_true rfl) (.int .i64 v1) [.int .i64 v0, .int .i64 v1, .int .i64 0] rfl).put 2 (of_decide_eq_true rfl) (.int .i64 v2) [.int .i64 v0, .int .i64 v1, .int .i64 v2] rfl) (by omega) (by omega) (by omega) (by omega) (by omega) (by omega) (by omega) (by omega) (by omega)
    · go_simp
      clear hHeld
      refine hK.out _ _ ⟨((B0_3.drew.alloc _).alloc _), ((B1_3.drew.alloc _).alloc _)⟩ (fun hHeld => ?_)
      clear hK K
      refine call_at (i := 2) (by kernel_rfl) rfl (fun K hK => ?_)
      go_simp
      refine (vUnit_any w1.heap.size false p _ ((f3.drew.alloc _).alloc _)).mono ?_
      rintro e w4 ⟨rfl, f4, k4⟩
      rw [hu] at f4 ⊢
      dsimp only at f4 ⊢
      have K4 : Below w.heap.size w w4 := k4.on (bel_al (bel_al (Below.drew K3) _) _) (by omega)
      have B0_4 : Arr w.heap.size [.int .i64 p.1, .int .i64 p.2.1, .int .i64 p.2.2] w4 := ((B0_3.drew.alloc _).alloc _).kept k4 (by omega)
      have B1_4 : Arr (w.heap.size + 1) [.int .i64 q.1, .int .i64 q.2.1, .int .i64 q.2.2] w4 := ((B1_3.drew.alloc _).alloc _).kept k4 (by omega)
      have B3_4 : Arr w3.heap.size [.int .i64 0, .int .i64 0, .int .i64 0] w4 := ((Arr_at _ _ [.int .i64 0, .int .i64 0, .int .i64 0] _ (by simp)).alloc _).kept k4 (by omega)
      have B4_4 : Arr (w3.heap.size + 1) [.int .i64 0, .int .i64 0, .int .i64 0] w4 := (Arr_at _ _ [.int .i64 0, .int .i64 0, .int .i64 0] _ (by simp)).kept k4 (by omega)
      have z4 := B4_4.lies
      clear hHeld
      refine hK.out _ _ ⟨B0_4, B1_4⟩ (fun hHeld => ?_)
      clear hK K K3 B0_3 B1_3 f3 k4
      refine call_at (i := 5) (by kernel_rfl) rfl (fun K hK => ?_)
      go_simp
      refine (vUnit_any w1.heap.size false q _ f4).mono ?_
      rintro e w5 ⟨rfl, f5, k5⟩
      rw [hv] at f5 ⊢
      dsimp only at f5 ⊢
      have K5 : Below w.heap.size w w5 := k5.on K4 (by omega)
      have B0_5 : Arr w.heap.size [.int .i64 p.1, .int .i64 p.2.1, .int .i64 p.2.2] w5 := B0_4.kept k5 (by omega)
      have B1_5 : Arr (w.heap.size + 1) [.int .i64 q.1, .int .i64 q.2.1, .int .i64 q.2.2] w5 := B1_4.kept k5 (by omega)
      have B3_5 : Arr w3.heap.size [.int .i64 0, .int .i64 0, .int .i64 0] w5 := B3_4.kept k5 (by omega)
      have B4_5 : Arr (w3.heap.size + 1) [.int .i64 0, .int .i64 0, .int .i64 0] w5 := B4_4.kept k5 (by omega)
      have z5 := B4_5.lies
      clear hHeld
      refine hK.out _ _ ⟨B0_5, B1_5⟩ (fun hHeld => ?_)
      clear hK K K4 B0_4 B1_4 f4 B3_4 B4_4 k5
      refine call_at (i := 8) (by kernel_rfl) rfl (fun K hK => ?_)
      have c7_B4_0 : w5.cell? ⟨w3.heap.size + 1, 0, none⟩ = some (.int .i64 0) := B4_5.c 0 (of_decide_eq_true rfl)
      have c7_B4_1 : w5.cell? ⟨w3.heap.size + 1, 1, none⟩ = some (.int .i64 0) := B4_5.c 1 (of_decide_eq_true rfl)
      have c7_B4_2 : w5.cell? ⟨w3.heap.size + 1, 2, none⟩ = some (.int .i64 0) := B4_5.c 2 (of_decide_eq_true rfl)
      have g7_B4_0 := B4_5.f 0 (of_decide_eq_true rfl)
      have g7_B4_1 := B4_5.f 1 (of_decide_eq_true rfl)
      have g7_B4_2 := B4_5.f 2 (of_decide_eq_true rfl)
      go_simp
      clear hHeld
      refine hK.out _ _ ⟨(((B0_5.new _ _ (by omega) _).new _ _ (by omega) _).new _ _ (by omega) _), (((B1_5.new _ _ (by omega) _).new _ _ (by omega) _).new _ _ (by omega) _)⟩ (fun hHeld => ?_)
      clear hK K c7_B4_0 c7_B4_1 c7_B4_2 g7_B4_0 g7_B4_1 g7_B4_2
      refine call_at (i := 9) (by kernel_rfl) rfl (fun K hK => ?_)
      have c8_B3_0 : w5.cell? ⟨w3.heap.size, 0, none⟩ = some (.int .i64 0) := B3_5.c 0 (of_decide_eq_true rfl)
      have c8_B3_1 : w5.cell? ⟨w3.heap.size, 1, none⟩ = some (.int .i64 0) := B3_5.c 1 (of_decide_eq_true rfl)
      have c8_B3_2 : w5.cell? ⟨w3.heap.size, 2, none⟩ = some (.int .i64 0) := B3_5.c 2 (of_decide_eq_true rfl)
      have g8_B3_0 := B3_5.f 0 (of_decide_eq_true rfl)
      have g8_B3_1 := B3_5.f 1 (of_decide_eq_true rfl)
      have g8_B3_2 := B3_5.f 2 (of_decide_eq_true rfl)
      go_simp
      clear hHeld
      refine hK.out _ _ ⟨((((((B0_5.new _ _ (by omega) _).new _ _ (by omega) _).new _ _ (by omega) _).new _ _ (by omega) _).new _ _ (by omega) _).new _ _ (by omega) _), ((((((B1_5.new _ _ (by omega) _).new _ _ (by omega) _).new _ _ (by omega) _).new _ _ (by omega) _).new _ _ (by omega) _).new _ _ (by omega) _)⟩ (fun hHeld => ?_)
      clear hK K c8_B3_0 c8_B3_1 c8_B3_2 g8_B3_0 g8_B3_1 g8_B3_2
      refine wpAnyH_done (by kernel_rfl) ?_ _
      clear hHeld
      exact cont1 _ _ _ _ _ _ _ _ _ _ _ _ _ _ _ _ _ _ _ _ _ _ _ _ _ _ _ (w3.heap.size + 1) w3.heap.size (bel_new (bel_new (bel_new (bel_new (bel_new (bel_new K5 _ _ (by omega) _) _ _ (by omega) _) _ _ (by omega) _) _ _ (by omega) _) _ _ (by omega) _) _ _ (by omega) _) ((((((B0_5.new _ _ (by omega) _).new _ _ (by omega) _).new _ _ (by omega) _).new _ _ (by omega) _).new _ _ (by omega) _).new _ _ (by omega) _) ((((((B1_5.new _ _ (by omega) _).new _ _ (by omega) _).new _ _ (by omega) _).new _ _ (by omega) _).new _ _ (by omega) _).new _ _ (by omega) _) ((((((f5.new _ _ (by omega) _).new _ _ (by omega) _).new _ _ (by omega) _).new _ _ (by omega) _).new _ _ (by omega) _).new _ _ (by omega) _) ((((((B4_5.put 0 (of_decide_eq_true rfl) (.int .i64 u0) [.int .i64 u0, .int .i64 0, .int .i64 0] rfl).put 1 (of_decide_eq_true rfl) (.int .i64 u1) [.int .i64 u0, .int .i64 u1, .int .i64 0] rfl).put 2 (of_decide_eq_true rfl) (.int .i64 u2) [.int .i64 u0, .int .i64 u1, .int .i64 u2] rfl).new _ _ (by omega) _).new _ _ (by omega) _).new _ _ (by omega) _) ((((((B3_5.new _ _ (by omega) _).new _ _ (by omega) _).new _ _ (by omega) _).put 0 (of_decide_eq_true rfl) (.int .i64 v0) [.int .i64 v0, .int .i64 0, .int .i64 0] rfl).put 1 (of_decide_eq_true rfl) (.int .i64 v1) [.int .i64 v0, .int .i64 v1, .int .i64 0] rfl).put 2 (of_decide_eq_true rfl) (.int .i64 v2) [.int .i64 v0, .int .i64 v1, .int .i64 v2] rfl) (by omega) (by omega) (by omega) (by omega) (by omega) (by omega) (by omega) (by omega) (by omega)
theorem VecUpright_any (p q : V3) (w : World) :
    Calls Try.prog 3 #[.agg #[.int .i64 p.1, .int .i64 p.2.1, .int .i64 p.2.2], .agg #[.int .i64 q.1, .int .i64 q.2.1, .int .i64 q.2.2]] w fun e w' => e = .returned (.bool true) ∧ Below w.heap.size w w' := by
  cases h : vNormS false p with
  | mk n bp =>
    by_cases hc : n < 1099511627776
    · exact VecUpright_p p q w n bp h hc
    · have hb : bp = false := by
        cases bp
        · rfl
        · have := normS_bad false p.1 p.2.1 p.2.2 (by rw [show normS false p.1 p.2.1 p.2.2 = (n, true) from h])
          rw [show normS false p.1 p.2.1 p.2.2 = (n, true) from h] at this
          have : n = 0 := this
          omega
      subst hb
      cases k : vNormS false q with
      | mk m bq =>
        by_cases hd : m < 1099511627776
        · exact VecUpright_q p q w n m bq h (by omega) k hd
        · have hb : bq = false := by
            cases bq
            · rfl
            · have := normS_bad false q.1 q.2.1 q.2.2 (by rw [show normS false q.1 q.2.1 q.2.2 = (m, true) from k])
              rw [show normS false q.1 q.2.1 q.2.2 = (m, true) from k] at this
              have : m = 0 := this
              omega
          subst hb
          obtain ⟨u0, u1, u2, v0, v1, v2, c0, c1, c2, d, e, hu, hv, hx, h1, h2, b1, b2, b3, b4⟩ := upright_math p q n m h k (by omega) (by omega)
          exact VecUpright_good p q w n m u0 u1 u2 v0 v1 v2 c0 c1 c2 d e h (by omega) k (by omega) hu hv hx h1 h2 b1 b2 b3 b4
end Go.Proofs.Ytfokapiceibfnab
