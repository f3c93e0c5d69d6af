/-
  The walk of the law OrbitPlane, for the seat Ytmjkmbhaemencaa. (Made by mkorbit.py.)
-/
import Derived.Test.YtmjkmbhaemencaaOAwake
import Derived.Test.YtmjkmbhaemencaaVCode
import Derived.Test.YtmjkmbhaemencaaVPart
import Derived.Handy
import Derived.Deep.RegionHeld3
namespace Go.Proofs.Ytmjkmbhaemencaa
open Go.RowKit

theorem mul_none {a d m : Int} (h : d = 0) (k : mulS false a d = (m, false)) : m = 0 := by
  subst h
  have a := mul_get k
  have a1 := a.lo; have a2 := a.hi
  rw [Int.mul_zero] at a1 a2
  omega
theorem less_none {f : Int → Int × Bool} {n k : Int} {r : Int × Bool} (hk : k = 0) (h : f (n - k) = r) : f n = r := by
  subst hk
  rw [Int.sub_zero] at h
  exact h
set_option maxRecDepth 100000 in
set_option maxHeartbeats 4000000 in
theorem OrbitPlane_a (o : V7) (w : World) (hr : oRightC o = false) :
    Calls Try.prog 8 #[.agg #[.int .i64 o.1, .int .i64 o.2.1, .int .i64 o.2.2.1, .int .i64 o.2.2.2.1, .int .i64 o.2.2.2.2.1, .int .i64 o.2.2.2.2.2.1, .int .i64 o.2.2.2.2.2.2]] w fun e w' => e = .returned (.bool true) ∧ Below w.heap.size w w' := by
  go_enter Try.func8, Try.ntmps8
  have y1_low : w.heap.size ≤ w.heap.size := (Below.refl w.heap.size w).size
  go_wp2_with fail
  refine (awake_any  _).mono ?_
  rintro e w1 ⟨rfl, k1⟩
  have K1 : Below w.heap.size w w1 := bel_then (bel_al (Below.refl w.heap.size w) _) k1
  have B0_1 : Arr w.heap.size [.int .i64 o.1, .int .i64 o.2.1, .int .i64 o.2.2.1, .int .i64 o.2.2.2.1, .int .i64 o.2.2.2.2.1, .int .i64 o.2.2.2.2.2.1, .int .i64 o.2.2.2.2.2.2] w1 := (Arr_at _ _ [.int .i64 o.1, .int .i64 o.2.1, .int .i64 o.2.2.1, .int .i64 o.2.2.2.1, .int .i64 o.2.2.2.2.1, .int .i64 o.2.2.2.2.2.1, .int .i64 o.2.2.2.2.2.2] _ (by simp)).below k1
  have z1 := B0_1.lies
  clear k1
  have c2_B0_0 : w1.cell? ⟨w.heap.size, 0, none⟩ = some (.int .i64 o.1) := B0_1.c 0 (of_decide_eq_true rfl)
  have c2_B0_1 : w1.cell? ⟨w.heap.size, 1, none⟩ = some (.int .i64 o.2.1) := B0_1.c 1 (of_decide_eq_true rfl)
  have c2_B0_2 : w1.cell? ⟨w.heap.size, 2, none⟩ = some (.int .i64 o.2.2.1) := B0_1.c 2 (of_decide_eq_true rfl)
  have c2_B0_3 : w1.cell? ⟨w.heap.size, 3, none⟩ = some (.int .i64 o.2.2.2.1) := B0_1.c 3 (of_decide_eq_true rfl)
  have c2_B0_4 : w1.cell? ⟨w.heap.size, 4, none⟩ = some (.int .i64 o.2.2.2.2.1) := B0_1.c 4 (of_decide_eq_true rfl)
  have c2_B0_5 : w1.cell? ⟨w.heap.size, 5, none⟩ = some (.int .i64 o.2.2.2.2.2.1) := B0_1.c 5 (of_decide_eq_true rfl)
  have c2_B0_6 : w1.cell? ⟨w.heap.size, 6, none⟩ = some (.int .i64 o.2.2.2.2.2.2) := B0_1.c 6 (of_decide_eq_true rfl)
  go_wp2_with fail
  refine (oRightC_any o _).mono ?_
  rintro e w2 ⟨rfl, k2⟩
  rw [hr]
  try dsimp only
  have K2 : Below w.heap.size w w2 := bel_then K1 k2
  have B0_2 : Arr w.heap.size [.int .i64 o.1, .int .i64 o.2.1, .int .i64 o.2.2.1, .int .i64 o.2.2.2.1, .int .i64 o.2.2.2.2.1, .int .i64 o.2.2.2.2.2.1, .int .i64 o.2.2.2.2.2.2] w2 := B0_1.below k2
  have z2 := B0_2.lies
  clear c2_B0_0 c2_B0_1 c2_B0_2 c2_B0_3 c2_B0_4 c2_B0_5 c2_B0_6 K1 B0_1 k2
  go_wp2
  go_ret
  exact ⟨rfl, K2⟩
set_option maxRecDepth 100000 in
set_option maxHeartbeats 4000000 in
theorem OrbitPlane_in (o : V7) (w : World) (hr : oRightC o = true) (x y z s c sn cn g0 g1 d : Int) (hp : placeS false o o.2.2.2.2.2.2 = ((x, y, z), false)) (hs : sinA false o.2.2.1 = (s, false)) (hc : cosA false o.2.2.1 = (c, false)) (hsn : sinA false o.2.2.2.1 = (sn, false)) (hcn : cosA false o.2.2.2.1 = (cn, false)) (h0 : mulS false s sn = (g0, false)) (h1 : mulS false s cn = (g1, false)) (b1 : -4611686018427387904 ≤ g1) (b2 : g1 ≤ 4611686018427387904) (hd : vDotS false (x, y, z) (g0, (-g1), c) = (d, false)) (d1 : d ≤ 65536) (d2 : d ≥ -65536) :
    Calls Try.prog 8 #[.agg #[.int .i64 o.1, .int .i64 o.2.1, .int .i64 o.2.2.1, .int .i64 o.2.2.2.1, .int .i64 o.2.2.2.2.1, .int .i64 o.2.2.2.2.2.1, .int .i64 o.2.2.2.2.2.2]] w fun e w' => e = .returned (.bool true) ∧ Below w.heap.size w w' := by
  go_enter Try.func8, Try.ntmps8
  have y1_low : w.heap.size ≤ w.heap.size := (Below.refl w.heap.size w).size
  go_wp2_with fail
  refine (awake_any  _).mono ?_
  rintro e w1 ⟨rfl, k1⟩
  have K1 : Below w.heap.size w w1 := bel_then (bel_al (Below.refl w.heap.size w) _) k1
  have B0_1 : Arr w.heap.size [.int .i64 o.1, .int .i64 o.2.1, .int .i64 o.2.2.1, .int .i64 o.2.2.2.1, .int .i64 o.2.2.2.2.1, .int .i64 o.2.2.2.2.2.1, .int .i64 o.2.2.2.2.2.2] w1 := (Arr_at _ _ [.int .i64 o.1, .int .i64 o.2.1, .int .i64 o.2.2.1, .int .i64 o.2.2.2.1, .int .i64 o.2.2.2.2.1, .int .i64 o.2.2.2.2.2.1, .int .i64 o.2.2.2.2.2.2] _ (by simp)).below k1
  have z1 := B0_1.lies
  clear k1
  have c2_B0_0 : w1.cell? ⟨w.heap.size, 0, none⟩ = some (.int .i64 o.1) := B0_1.c 0 (of_decide_eq_true rfl)
  have c2_B0_1 : w1.cell? ⟨w.heap.size, 1, none⟩ = some (.int .i64 o.2.1) := B0_1.c 1 (of_decide_eq_true rfl)
  have c2_B0_2 : w1.cell? ⟨w.heap.size, 2, none⟩ = some (.int .i64 o.2.2.1) := B0_1.c 2 (of_decide_eq_true rfl)
  have c2_B0_3 : w1.cell? ⟨w.heap.size, 3, none⟩ = some (.int .i64 o.2.2.2.1) := B0_1.c 3 (of_decide_eq_true rfl)
  have c2_B0_4 : w1.cell? ⟨w.heap.size, 4, none⟩ = some (.int .i64 o.2.2.2.2.1) := B0_1.c 4 (of_decide_eq_true rfl)
  have c2_B0_5 : w1.cell? ⟨w.heap.size, 5, none⟩ = some (.int .i64 o.2.2.2.2.2.1) := B0_1.c 5 (of_decide_eq_true rfl)
  have c2_B0_6 : w1.cell? ⟨w.heap.size, 6, none⟩ = some (.int .i64 o.2.2.2.2.2.2) := B0_1.c 6 (of_decide_eq_true rfl)
  go_wp2_with fail
  refine (oRightC_any o _).mono ?_
  rintro e w2 ⟨rfl, k2⟩
  rw [hr]
  try dsimp only
  have K2 : Below w.heap.size w w2 := bel_then K1 k2
  have B0_2 : Arr w.heap.size [.int .i64 o.1, .int .i64 o.2.1, .int .i64 o.2.2.1, .int .i64 o.2.2.2.1, .int .i64 o.2.2.2.2.1, .int .i64 o.2.2.2.2.2.1, .int .i64 o.2.2.2.2.2.2] w2 := B0_1.below k2
  have z2 := B0_2.lies
  clear c2_B0_0 c2_B0_1 c2_B0_2 c2_B0_3 c2_B0_4 c2_B0_5 c2_B0_6 K1 B0_1 k2
  have y2_B0 : w.heap.size < w2.heap.size := B0_2.lies
  have y2_low : w.heap.size ≤ w2.heap.size := K2.size
  have c3_B0_0 : w2.cell? ⟨w.heap.size, 0, none⟩ = some (.int .i64 o.1) := B0_2.c 0 (of_decide_eq_true rfl)
  have c3_B0_1 : w2.cell? ⟨w.heap.size, 1, none⟩ = some (.int .i64 o.2.1) := B0_2.c 1 (of_decide_eq_true rfl)
  have c3_B0_2 : w2.cell? ⟨w.heap.size, 2, none⟩ = some (.int .i64 o.2.2.1) := B0_2.c 2 (of_decide_eq_true rfl)
  have c3_B0_3 : w2.cell? ⟨w.heap.size, 3, none⟩ = some (.int .i64 o.2.2.2.1) := B0_2.c 3 (of_decide_eq_true rfl)
  have c3_B0_4 : w2.cell? ⟨w.heap.size, 4, none⟩ = some (.int .i64 o.2.2.2.2.1) := B0_2.c 4 (of_decide_eq_true rfl)
  have c3_B0_5 : w2.cell? ⟨w.heap.size, 5, none⟩ = some (.int .i64 o.2.2.2.2.2.1) := B0_2.c 5 (of_decide_eq_true rfl)
  have c3_B0_6 : w2.cell? ⟨w.heap.size, 6, none⟩ = some (.int .i64 o.2.2.2.2.2.2) := B0_2.c 6 (of_decide_eq_true rfl)
  have l3_B0 := B0_2.lies
  go_wp2_with fail
  refine (oPlace_any w2.heap.size false o o.2.2.2.2.2.2 _ (Fl_at _ _ _ _ (by simp))).mono ?_
  rintro e w3 ⟨rfl, f3, k3⟩
  rw [hp] at f3 ⊢
  dsimp only at f3 ⊢
  have K3 : Below w.heap.size w w3 := k3.on (bel_al K2 _) (by omega)
  have B0_3 : Arr w.heap.size [.int .i64 o.1, .int .i64 o.2.1, .int .i64 o.2.2.1, .int .i64 o.2.2.2.1, .int .i64 o.2.2.2.2.1, .int .i64 o.2.2.2.2.2.1, .int .i64 o.2.2.2.2.2.2] w3 := (B0_2.alloc _).kept k3 (Nat.ne_of_lt y2_B0)
  have z3 := f3.lies
  clear c3_B0_0 c3_B0_1 c3_B0_2 c3_B0_3 c3_B0_4 c3_B0_5 c3_B0_6 l3_B0 K2 B0_2 k3
  have y3_B0 : w.heap.size < w3.heap.size := B0_3.lies
  have y3_B1 : w2.heap.size < w3.heap.size := f3.lies
  have y3_low : w.heap.size ≤ w3.heap.size := K3.size
  go_wp2_with fail
  refine wp_region_held_drew (S := fun w' => Arr w.heap.size [.int .i64 o.1, .int .i64 o.2.1, .int .i64 o.2.2.1, .int .i64 o.2.2.2.1, .int .i64 o.2.2.2.2.1, .int .i64 o.2.2.2.2.2.1, .int .i64 o.2.2.2.2.2.2] w') (by kernel_rfl) (B0_3.alloc _).drew (fun hHeld => ?_)
  refine take_at (i := 0) (v := ?v1) rfl (by kernel_rfl) (by kernel_rfl) (by kernel_rfl) (fun _ _ _ h => h) (Or.inl ⟨by rfl, ?y1⟩) hHeld ?t1
  case y1 => (intro wx hSw; go_simp <;> with_reducible rfl)
  simp only [Act.put, List.setIfInBounds_toArray, List.set_cons_zero, List.set_cons_succ]
  refine take_at (i := 1) (v := ?v2) rfl (by kernel_rfl) (by kernel_rfl) (by kernel_rfl) (fun _ _ _ h => h) (Or.inl ⟨by rfl, ?y2⟩) hHeld ?t2
  case y2 => (intro wx hSw; go_simp <;> with_reducible rfl)
  simp only [Act.put, List.setIfInBounds_toArray, List.set_cons_zero, List.set_cons_succ]
  refine take_at (i := 2) (v := ?v3) rfl (by kernel_rfl) (by kernel_rfl) (by kernel_rfl) (fun _ _ _ h => h) (Or.inl ⟨by rfl, ?y3⟩) hHeld ?t3
  case y3 => (intro wx hSw; have hc2 : wx.cell? ⟨w.heap.size, 2, none⟩ = some (.int .i64 o.2.2.1) := hSw.c 2 (of_decide_eq_true rfl); go_simp <;> with_reducible rfl)
  simp only [Act.put, List.setIfInBounds_toArray, List.set_cons_zero, List.set_cons_succ]
  refine take_at (i := 4) (v := ?v4) rfl (by kernel_rfl) (by kernel_rfl) (by kernel_rfl) (fun _ _ _ h => h) (Or.inl ⟨by rfl, ?y4⟩) hHeld ?t4
  case y4 => (intro wx hSw; go_simp <;> with_reducible rfl)
  simp only [Act.put, List.setIfInBounds_toArray, List.set_cons_zero, List.set_cons_succ]
  refine take_at (i := 5) (v := ?v5) rfl (by kernel_rfl) (by kernel_rfl) (by kernel_rfl) (fun _ _ _ h => h) (Or.inl ⟨by rfl, ?y5⟩) hHeld ?t5
  case y5 => (intro wx hSw; go_simp <;> with_reducible rfl)
  simp only [Act.put, List.setIfInBounds_toArray, List.set_cons_zero, List.set_cons_succ]
  refine take_at (i := 6) (v := ?v6) rfl (by kernel_rfl) (by kernel_rfl) (by kernel_rfl) (fun _ _ _ h => h) (Or.inl ⟨by rfl, ?y6⟩) hHeld ?t6
  case y6 => (intro wx hSw; have hc2 : wx.cell? ⟨w.heap.size, 2, none⟩ = some (.int .i64 o.2.2.1) := hSw.c 2 (of_decide_eq_true rfl); go_simp <;> with_reducible rfl)
  simp only [Act.put, List.setIfInBounds_toArray, List.set_cons_zero, List.set_cons_succ]
  refine call_at (i := 3) (by kernel_rfl) rfl (fun K hK => ?_)
  go_simp
  refine (Sin_any w2.heap.size false o.2.2.1 _ (f3.alloc _).drew).mono ?_
  rintro e w4 ⟨rfl, f4, k4⟩
  rw [hs] at f4 ⊢
  dsimp only at f4 ⊢
  have K4 : Below w.heap.size w w4 := k4.on (Below.drew (bel_al K3 _)) (by omega)
  have B0_4 : Arr w.heap.size [.int .i64 o.1, .int .i64 o.2.1, .int .i64 o.2.2.1, .int .i64 o.2.2.2.1, .int .i64 o.2.2.2.2.1, .int .i64 o.2.2.2.2.2.1, .int .i64 o.2.2.2.2.2.2] w4 := (B0_3.alloc _).drew.kept k4 (Nat.ne_of_lt y2_B0)
  have B2_4 : Arr w3.heap.size [.int .i64 x, .int .i64 y, .int .i64 z] w4 := (Arr_at _ _ [.int .i64 x, .int .i64 y, .int .i64 z] _ (by simp)).drew.kept k4 (Nat.ne_of_gt y3_B1)
  have z4 := B2_4.lies
  clear hHeld
  refine hK.out _ _ B0_4 (fun hHeld => ?_)
  clear hK K K3 B0_3 f3 k4
  refine call_at (i := 7) (by kernel_rfl) rfl (fun K hK => ?_)
  go_simp
  refine (Cos_any w2.heap.size false o.2.2.1 _ f4).mono ?_
  rintro e w5 ⟨rfl, f5, k5⟩
  rw [hc] at f5 ⊢
  dsimp only at f5 ⊢
  have K5 : Below w.heap.size w w5 := k5.on K4 (by omega)
  have B0_5 : Arr w.heap.size [.int .i64 o.1, .int .i64 o.2.1, .int .i64 o.2.2.1, .int .i64 o.2.2.2.1, .int .i64 o.2.2.2.2.1, .int .i64 o.2.2.2.2.2.1, .int .i64 o.2.2.2.2.2.2] w5 := B0_4.kept k5 (Nat.ne_of_lt y2_B0)
  have B2_5 : Arr w3.heap.size [.int .i64 x, .int .i64 y, .int .i64 z] w5 := B2_4.kept k5 (Nat.ne_of_gt y3_B1)
  have z5 := B2_5.lies
  clear hHeld
  refine hK.out _ _ B0_5 (fun hHeld => ?_)
  clear hK K K4 B0_4 f4 B2_4 k5
  refine take_at (i := 8) (v := ?v7) rfl (by kernel_rfl) (by kernel_rfl) (by kernel_rfl) (fun _ _ _ h => h) (Or.inl ⟨by rfl, ?y7⟩) hHeld ?t7
  case y7 => (intro wx hSw; go_simp <;> with_reducible rfl)
  simp only [Act.put, List.setIfInBounds_toArray, List.set_cons_zero, List.set_cons_succ]
  refine take_at (i := 9) (v := ?v8) rfl (by kernel_rfl) (by kernel_rfl) (by kernel_rfl) (fun _ _ _ h => h) (Or.inl ⟨by rfl, ?y8⟩) hHeld ?t8
  case y8 => (intro wx hSw; go_simp <;> with_reducible rfl)
  simp only [Act.put, List.setIfInBounds_toArray, List.set_cons_zero, List.set_cons_succ]
  refine wpAnyH_done (by kernel_rfl) ?_ _
  clear hHeld
  go_wp2_with fail
  refine get_cont (fun KK1 hKK1 => ?_)
  have cont1 : ∀ (W1 : World) (t1_9 t1_10 t1_11 t1_12 t1_13 t1_14 t1_15 t1_16 t1_17 t1_18 t1_19 t1_20 t1_21 t1_22 t1_23 t1_24 t1_25 t1_26 t1_27 t1_28 t1_29 t1_30 t1_31 t1_32 t1_33 t1_34 t1_35 t1_36 t1_37 t1_38 t1_39 t1_40 t1_41 t1_42 t1_43 t1_44 t1_45 : Value) (x1_0 : Nat) , Below w.heap.size w W1 → Arr w.heap.size [.int .i64 o.1, .int .i64 o.2.1, .int .i64 o.2.2.1, .int .i64 o.2.2.2.1, .int .i64 o.2.2.2.2.1, .int .i64 o.2.2.2.2.2.1, .int .i64 o.2.2.2.2.2.2] W1 → Fl w2.heap.size false W1 → Arr w3.heap.size [.int .i64 x, .int .i64 y, .int .i64 z] W1 → Arr x1_0 [.int .i64 g0, .int .i64 (-g1), .int .i64 c] W1 → w.heap.size ≤ x1_0 → w.heap.size < x1_0 → w2.heap.size < x1_0 → w3.heap.size < x1_0 → KK1 { tmps := #[.agg #[.int .i64 o.1, .int .i64 o.2.1, .int .i64 o.2.2.1, .int .i64 o.2.2.2.1, .int .i64 o.2.2.2.2.1, .int .i64 o.2.2.2.2.2.1, .int .i64 o.2.2.2.2.2.2], .pointer (some ⟨w.heap.size, 0, none⟩), .bool false, .pointer (some ⟨w2.heap.size, 0, none⟩), .pointer (some ⟨w3.heap.size, 0, none⟩), .int .i64 s, .int .i64 c, .pointer (some ⟨x1_0, 0, none⟩), undef, t1_9, t1_10, t1_11, t1_12, t1_13, t1_14, t1_15, t1_16, t1_17, t1_18, t1_19, t1_20, t1_21, t1_22, t1_23, t1_24, t1_25, t1_26, t1_27, t1_28, t1_29, t1_30, t1_31, t1_32, t1_33, t1_34, t1_35, t1_36, t1_37, t1_38, t1_39, t1_40, t1_41, t1_42, t1_43, t1_44, t1_45, undef, undef, undef, undef, undef, undef, undef, undef, undef, undef, undef, undef, undef, undef, undef, undef, undef], defers := [] } W1 := by
    intro W1 t1_9 t1_10 t1_11 t1_12 t1_13 t1_14 t1_15 t1_16 t1_17 t1_18 t1_19 t1_20 t1_21 t1_22 t1_23 t1_24 t1_25 t1_26 t1_27 t1_28 t1_29 t1_30 t1_31 t1_32 t1_33 t1_34 t1_35 t1_36 t1_37 t1_38 t1_39 t1_40 t1_41 t1_42 t1_43 t1_44 t1_45 x1_0 KC1 B0_c1 B1_c1 B2_c1 B3_c1 s1_0 s1_1 s1_2 s1_3
    have zc1_B0 := B0_c1.lies
    have zc1_B1 := B1_c1.lies
    have zc1_B2 := B2_c1.lies
    have zc1_B3 := B3_c1.lies
    rw [hKK1.out]
    dsimp only [Exit.inBlock, Exit.then]
    first | refine use_cont (by assumption) ?_ | skip
    have c6_B2_0 : W1.cell? ⟨w3.heap.size, 0, none⟩ = some (.int .i64 x) := B2_c1.c 0 (of_decide_eq_true rfl)
    have c6_B2_1 : W1.cell? ⟨w3.heap.size, 1, none⟩ = some (.int .i64 y) := B2_c1.c 1 (of_decide_eq_true rfl)
    have c6_B2_2 : W1.cell? ⟨w3.heap.size, 2, none⟩ = some (.int .i64 z) := B2_c1.c 2 (of_decide_eq_true rfl)
    have c6_B3_0 : W1.cell? ⟨x1_0, 0, none⟩ = some (.int .i64 g0) := B3_c1.c 0 (of_decide_eq_true rfl)
    have c6_B3_1 : W1.cell? ⟨x1_0, 1, none⟩ = some (.int .i64 (-g1)) := B3_c1.c 1 (of_decide_eq_true rfl)
    have c6_B3_2 : W1.cell? ⟨x1_0, 2, none⟩ = some (.int .i64 c) := B3_c1.c 2 (of_decide_eq_true rfl)
    go_wp2_with fail
    refine (vDot_any w2.heap.size false (x, y, z) (g0, (-g1), c) _ B1_c1).mono ?_
    rintro e w10 ⟨rfl, f10, k10⟩
    rw [hd] at f10 ⊢
    dsimp only at f10 ⊢
    have K10 : Below w.heap.size w w10 := k10.on KC1 (by omega)
    have B0_10 : Arr w.heap.size [.int .i64 o.1, .int .i64 o.2.1, .int .i64 o.2.2.1, .int .i64 o.2.2.2.1, .int .i64 o.2.2.2.2.1, .int .i64 o.2.2.2.2.2.1, .int .i64 o.2.2.2.2.2.2] w10 := B0_c1.kept k10 (Nat.ne_of_lt y2_B0)
    have B2_10 : Arr w3.heap.size [.int .i64 x, .int .i64 y, .int .i64 z] w10 := B2_c1.kept k10 (Nat.ne_of_gt y3_B1)
    have B3_10 : Arr x1_0 [.int .i64 g0, .int .i64 (-g1), .int .i64 c] w10 := B3_c1.kept k10 (Nat.ne_of_gt s1_2)
    have z10 := B3_10.lies
    clear c6_B2_0 c6_B2_1 c6_B2_2 c6_B3_0 c6_B3_1 c6_B3_2 B0_c1 B1_c1 B2_c1 B3_c1 k10
    have c7_B1 := f10.cell
    go_wp2
    clear c7_B1
    go_ret
    exact ⟨rfl, K10⟩
  refine wp_region_held_drew (S := fun w' => Arr w.heap.size [.int .i64 o.1, .int .i64 o.2.1, .int .i64 o.2.2.1, .int .i64 o.2.2.2.1, .int .i64 o.2.2.2.2.1, .int .i64 o.2.2.2.2.2.1, .int .i64 o.2.2.2.2.2.2] w') (by kernel_rfl) B0_5.drew (fun hHeld => ?_)
  refine take_at (i := 0) (v := ?v9) rfl (by kernel_rfl) (by kernel_rfl) (by kernel_rfl) (fun _ _ _ h => h) (Or.inl ⟨by rfl, ?y9⟩) hHeld ?t9
  case y9 => (intro wx hSw; go_simp <;> with_reducible rfl)
  simp only [Act.put, List.setIfInBounds_toArray, List.set_cons_zero, List.set_cons_succ]
  refine take_at (i := 1) (v := ?v10) rfl (by kernel_rfl) (by kernel_rfl) (by kernel_rfl) (fun _ _ _ h => h) (Or.inl ⟨by rfl, ?y10⟩) hHeld ?t10
  case y10 => (intro wx hSw; go_simp <;> with_reducible rfl)
  simp only [Act.put, List.setIfInBounds_toArray, List.set_cons_zero, List.set_cons_succ]
  refine take_at (i := 2) (v := ?v11) rfl (by kernel_rfl) (by kernel_rfl) (by kernel_rfl) (fun _ _ _ h => h) (Or.inl ⟨by rfl, ?y11⟩) hHeld ?t11
  case y11 => (intro wx hSw; go_simp <;> with_reducible rfl)
  simp only [Act.put, List.setIfInBounds_toArray, List.set_cons_zero, List.set_cons_succ]
  refine take_at (i := 3) (v := ?v12) rfl (by kernel_rfl) (by kernel_rfl) (by kernel_rfl) (fun _ _ _ h => h) (Or.inl ⟨by rfl, ?y12⟩) hHeld ?t12
  case y12 => (intro wx hSw; go_simp <;> with_reducible rfl)
  simp only [Act.put, List.setIfInBounds_toArray, List.set_cons_zero, List.set_cons_succ]
  refine take_at (i := 4) (v := ?v13) rfl (by kernel_rfl) (by kernel_rfl) (by kernel_rfl) (fun _ _ _ h => h) (Or.inl ⟨by rfl, ?y13⟩) hHeld ?t13
  case y13 => (intro wx hSw; have hc3 : wx.cell? ⟨w.heap.size, 3, none⟩ = some (.int .i64 o.2.2.2.1) := hSw.c 3 (of_decide_eq_true rfl); go_simp <;> with_reducible rfl)
  simp only [Act.put, List.setIfInBounds_toArray, List.set_cons_zero, List.set_cons_succ]
  refine take_at (i := 7) (v := ?v14) rfl (by kernel_rfl) (by kernel_rfl) (by kernel_rfl) (fun _ _ _ h => h) (Or.inl ⟨by rfl, ?y14⟩) hHeld ?t14
  case y14 => (intro wx hSw; go_simp <;> with_reducible rfl)
  simp only [Act.put, List.setIfInBounds_toArray, List.set_cons_zero, List.set_cons_succ]
  refine take_at (i := 8) (v := ?v15) rfl (by kernel_rfl) (by kernel_rfl) (by kernel_rfl) (fun _ _ _ h => h) (Or.inl ⟨by rfl, ?y15⟩) hHeld ?t15
  case y15 => (intro wx hSw; go_simp <;> with_reducible rfl)
  simp only [Act.put, List.setIfInBounds_toArray, List.set_cons_zero, List.set_cons_succ]
  refine take_at (i := 9) (v := ?v16) rfl (by kernel_rfl) (by kernel_rfl) (by kernel_rfl) (fun _ _ _ h => h) (Or.inl ⟨by rfl, ?y16⟩) hHeld ?t16
  case y16 => (intro wx hSw; go_simp <;> with_reducible rfl)
  simp only [Act.put, List.setIfInBounds_toArray, List.set_cons_zero, List.set_cons_succ]
  refine take_at (i := 10) (v := ?v17) rfl (by kernel_rfl) (by kernel_rfl) (by kernel_rfl) (fun _ _ _ h => h) (Or.inl ⟨by rfl, ?y17⟩) hHeld ?t17
  case y17 => (intro wx hSw; go_simp <;> with_reducible rfl)
  simp only [Act.put, List.setIfInBounds_toArray, List.set_cons_zero, List.set_cons_succ]
  refine take_at (i := 11) (v := ?v18) rfl (by kernel_rfl) (by kernel_rfl) (by kernel_rfl) (fun _ _ _ h => h) (Or.inl ⟨by rfl, ?y18⟩) hHeld ?t18
  case y18 => (intro wx hSw; have hc3 : wx.cell? ⟨w.heap.size, 3, none⟩ = some (.int .i64 o.2.2.2.1) := hSw.c 3 (of_decide_eq_true rfl); go_simp <;> with_reducible rfl)
  simp only [Act.put, List.setIfInBounds_toArray, List.set_cons_zero, List.set_cons_succ]
  refine take_at (i := 15) (v := ?v19) rfl (by kernel_rfl) (by kernel_rfl) (by kernel_rfl) (fun _ _ _ h => h) (Or.inl ⟨by rfl, ?y19⟩) hHeld ?t19
  case y19 => (intro wx hSw; go_simp <;> with_reducible rfl)
  simp only [Act.put, List.setIfInBounds_toArray, List.set_cons_zero, List.set_cons_succ]
  refine call_at2 (i0 := 5) (i1 := 17) (by kernel_rfl) rfl rfl (fun K hK => ?_) (fun K hK => ?_)
  · go_simp
    refine (Sin_any w2.heap.size false o.2.2.2.1 _ f5.drew).mono ?_
    rintro e w6 ⟨rfl, f6, k6⟩
    rw [hsn] at f6 ⊢
    dsimp only at f6 ⊢
    have K6 : Below w.heap.size w w6 := k6.on (Below.drew K5) (by omega)
    have B0_6 : Arr w.heap.size [.int .i64 o.1, .int .i64 o.2.1, .int .i64 o.2.2.1, .int .i64 o.2.2.2.1, .int .i64 o.2.2.2.2.1, .int .i64 o.2.2.2.2.2.1, .int .i64 o.2.2.2.2.2.2] w6 := B0_5.drew.kept k6 (Nat.ne_of_lt y2_B0)
    have B2_6 : Arr w3.heap.size [.int .i64 x, .int .i64 y, .int .i64 z] w6 := B2_5.drew.kept k6 (Nat.ne_of_gt y3_B1)
    have z6 := B2_6.lies
    clear hHeld
    refine hK.out _ _ B0_6 (fun hHeld => ?_)
    clear hK K K5 B0_5 f5 B2_5 k6
    refine call_at2 (i0 := 6) (i1 := 17) (by kernel_rfl) rfl rfl (fun K hK => ?_) (fun K hK => ?_)
    · go_simp
      refine (Mul_any w2.heap.size false s sn _ f6).mono ?_
      rintro e w7 ⟨rfl, f7, k7⟩
      rw [h0] at f7 ⊢
      dsimp only at f7 ⊢
      have K7 : Below w.heap.size w w7 := k7.on K6 (by omega)
      have B0_7 : Arr w.heap.size [.int .i64 o.1, .int .i64 o.2.1, .int .i64 o.2.2.1, .int .i64 o.2.2.2.1, .int .i64 o.2.2.2.2.1, .int .i64 o.2.2.2.2.2.1, .int .i64 o.2.2.2.2.2.2] w7 := B0_6.kept k7 (Nat.ne_of_lt y2_B0)
      have B2_7 : Arr w3.heap.size [.int .i64 x, .int .i64 y, .int .i64 z] w7 := B2_6.kept k7 (Nat.ne_of_gt y3_B1)
      have z7 := B2_7.lies
      clear hHeld
      refine hK.out _ _ B0_7 (fun hHeld => ?_)
      clear hK K K6 B0_6 f6 B2_6 k7
      refine call_at2 (i0 := 12) (i1 := 17) (by kernel_rfl) rfl rfl (fun K hK => ?_) (fun K hK => ?_)
      · go_simp
        refine (Cos_any w2.heap.size false o.2.2.2.1 _ f7).mono ?_
        rintro e w8 ⟨rfl, f8, k8⟩
        rw [hcn] at f8 ⊢
        dsimp only at f8 ⊢
        have K8 : Below w.heap.size w w8 := k8.on K7 (by omega)
        have B0_8 : Arr w.heap.size [.int .i64 o.1, .int .i64 o.2.1, .int .i64 o.2.2.1, .int .i64 o.2.2.2.1, .int .i64 o.2.2.2.2.1, .int .i64 o.2.2.2.2.2.1, .int .i64 o.2.2.2.2.2.2] w8 := B0_7.kept k8 (Nat.ne_of_lt y2_B0)
        have B2_8 : Arr w3.heap.size [.int .i64 x, .int .i64 y, .int .i64 z] w8 := B2_7.kept k8 (Nat.ne_of_gt y3_B1)
        have z8 := B2_8.lies
        clear hHeld
        refine hK.out _ _ B0_8 (fun hHeld => ?_)
        clear hK K K7 B0_7 f7 B2_7 k8
        refine call_at2 (i0 := 13) (i1 := 17) (by kernel_rfl) rfl rfl (fun K hK => ?_) (fun K hK => ?_)
        · go_simp
          refine (Mul_any w2.heap.size false s cn _ f8).mono ?_
          rintro e w9 ⟨rfl, f9, k9⟩
          rw [h1] at f9 ⊢
          dsimp only at f9 ⊢
          have K9 : Below w.heap.size w w9 := k9.on K8 (by omega)
          have B0_9 : Arr w.heap.size [.int .i64 o.1, .int .i64 o.2.1, .int .i64 o.2.2.1, .int .i64 o.2.2.2.1, .int .i64 o.2.2.2.2.1, .int .i64 o.2.2.2.2.2.1, .int .i64 o.2.2.2.2.2.2] w9 := B0_8.kept k9 (Nat.ne_of_lt y2_B0)
          have B2_9 : Arr w3.heap.size [.int .i64 x, .int .i64 y, .int .i64 z] w9 := B2_8.kept k9 (Nat.ne_of_gt y3_B1)
          have z9 := B2_9.lies
          clear hHeld
          refine hK.out _ _ B0_9 (fun hHeld => ?_)
          clear hK K K8 B0_8 f8 B2_8 k9
          refine take_at (i := 14) (v := ?v20) rfl (by kernel_rfl) (by kernel_rfl) (by kernel_rfl) (fun _ _ _ h => h) (Or.inl ⟨by rfl, ?y20⟩) hHeld ?t20
          case y20 => (intro wx hSw; go_simp <;> with_reducible rfl)
          simp only [Act.put, List.setIfInBounds_toArray, List.set_cons_zero, List.set_cons_succ]
          rw [IntWalk.i64_in (-g1) (by omega)]
          refine take_at (i := 16) (v := ?v21) rfl (by kernel_rfl) (by kernel_rfl) (by kernel_rfl) (fun _ _ _ h => h) (Or.inl ⟨by rfl, ?y21⟩) hHeld ?t21
          case y21 => (intro wx hSw; go_simp <;> with_reducible rfl)
          simp only [Act.put, List.setIfInBounds_toArray, List.set_cons_zero, List.set_cons_succ]
          refine call_at (i := 17) (by kernel_rfl) rfl (fun K hK => ?_)
          have y4_B0 : w.heap.size < w9.heap.size := B0_9.lies
          have y4_B1 : w2.heap.size < w9.heap.size := f9.lies
          have y4_B2 : w3.heap.size < w9.heap.size := B2_9.lies
          have y4_low : w.heap.size ≤ w9.heap.size := K9.size
          go_simp
          clear hHeld
          refine hK.out _ _ (B0_9.alloc _) (fun hHeld => ?_)
          clear hK K
          refine call_at (i := 18) (by kernel_rfl) rfl (fun K hK => ?_)
          go_simp
          clear hHeld
          refine hK.out _ _ (B0_9.alloc _) (fun hHeld => ?_)
          clear hK K
          refine wpAnyH_done (by kernel_rfl) ?_ _
          clear hHeld
          refine put_cont hKK1 ?_
          exact cont1 _ _ _ _ _ _ _ _ _ _ _ _ _ _ _ _ _ _ _ _ _ _ _ _ _ _ _ _ _ _ _ _ _ _ _ _ _ _ w9.heap.size (bel_al K9 _) (B0_9.alloc _) (f9.alloc _) (B2_9.alloc _) (Arr_at _ _ [.int .i64 g0, .int .i64 (-g1), .int .i64 c] _ (by simp)) y4_low y4_B0 y4_B1 y4_B2
        · have y5_B0 : w.heap.size < w8.heap.size := B0_8.lies
          have y5_B1 : w2.heap.size < w8.heap.size := f8.lies
          have y5_B2 : w3.heap.size < w8.heap.size := B2_8.lies
          have y5_low : w.heap.size ≤ w8.heap.size := K8.size
          go_simp
          clear hHeld
          refine hK.out _ _ (B0_8.alloc _) (fun hHeld => ?_)
          clear hK K
          refine call_at (i := 13) (by kernel_rfl) rfl (fun K hK => ?_)
          go_simp
          refine (Mul_any w2.heap.size false s cn _ (f8.alloc _)).mono ?_
          rintro e w9 ⟨rfl, f9, k9⟩
          rw [h1] at f9 ⊢
          dsimp only at f9 ⊢
          have K9 : Below w.heap.size w w9 := k9.on (bel_al K8 _) (by omega)
          have B0_9 : Arr w.heap.size [.int .i64 o.1, .int .i64 o.2.1, .int .i64 o.2.2.1, .int .i64 o.2.2.2.1, .int .i64 o.2.2.2.2.1, .int .i64 o.2.2.2.2.2.1, .int .i64 o.2.2.2.2.2.2] w9 := (B0_8.alloc _).kept k9 (Nat.ne_of_lt y2_B0)
          have B2_9 : Arr w3.heap.size [.int .i64 x, .int .i64 y, .int .i64 z] w9 := (B2_8.alloc _).kept k9 (Nat.ne_of_gt y3_B1)
          have B3_9 : Arr w8.heap.size [.int .i64 0, .int .i64 0, .int .i64 0] w9 := (Arr_at _ _ [.int .i64 0, .int .i64 0, .int .i64 0] _ (by simp)).kept k9 (Nat.ne_of_gt y5_B1)
          have z9 := B3_9.lies
          clear hHeld
          refine hK.out _ _ B0_9 (fun hHeld => ?_)
          clear hK K K8 B0_8 f8 B2_8 k9
          refine take_at (i := 14) (v := ?v22) rfl (by kernel_rfl) (by kernel_rfl) (by kernel_rfl) (fun _ _ _ h => h) (Or.inl ⟨by rfl, ?y22⟩) hHeld ?t22
          case y22 => (intro wx hSw; go_simp <;> with_reducible rfl)
          simp only [Act.put, List.setIfInBounds_toArray, List.set_cons_zero, List.set_cons_succ]
          rw [IntWalk.i64_in (-g1) (by omega)]
          refine take_at (i := 16) (v := ?v23) rfl (by kernel_rfl) (by kernel_rfl) (by kernel_rfl) (fun _ _ _ h => h) (Or.inl ⟨by rfl, ?y23⟩) hHeld ?t23
          case y23 => (intro wx hSw; go_simp <;> with_reducible rfl)
          simp only [Act.put, List.setIfInBounds_toArray, List.set_cons_zero, List.set_cons_succ]
          refine call_at (i := 18) (by kernel_rfl) rfl (fun K hK => ?_)
          have c7_B3_0 : w9.cell? ⟨w8.heap.size, 0, none⟩ = some (.int .i64 0) := B3_9.c 0 (of_decide_eq_true rfl)
          have c7_B3_1 : w9.cell? ⟨w8.heap.size, 1, none⟩ = some (.int .i64 0) := B3_9.c 1 (of_decide_eq_true rfl)
          have c7_B3_2 : w9.cell? ⟨w8.heap.size, 2, none⟩ = some (.int .i64 0) := B3_9.c 2 (of_decide_eq_true rfl)
          have g7_B3_0 := B3_9.f 0 (of_decide_eq_true rfl)
          have g7_B3_1 := B3_9.f 1 (of_decide_eq_true rfl)
          have g7_B3_2 := B3_9.f 2 (of_decide_eq_true rfl)
          go_simp
          clear hHeld
          refine hK.out _ _ (((B0_9.new w8.heap.size 0 (Nat.ne_of_lt y5_B0) (.int .i64 g0)).new w8.heap.size 1 (Nat.ne_of_lt y5_B0) (.int .i64 (-g1))).new w8.heap.size 2 (Nat.ne_of_lt y5_B0) (.int .i64 c)) (fun hHeld => ?_)
          clear hK K c7_B3_0 c7_B3_1 c7_B3_2 g7_B3_0 g7_B3_1 g7_B3_2
          refine wpAnyH_done (by kernel_rfl) ?_ _
          clear hHeld
          refine put_cont hKK1 ?_
          exact cont1 _ _ _ _ _ _ _ _ _ _ _ _ _ _ _ _ _ _ _ _ _ _ _ _ _ _ _ _ _ _ _ _ _ _ _ _ _ _ w8.heap.size (bel_new (bel_new (bel_new K9 _ _ y5_low _) _ _ y5_low _) _ _ y5_low _) (((B0_9.new w8.heap.size 0 (Nat.ne_of_lt y5_B0) (.int .i64 g0)).new w8.heap.size 1 (Nat.ne_of_lt y5_B0) (.int .i64 (-g1))).new w8.heap.size 2 (Nat.ne_of_lt y5_B0) (.int .i64 c)) (((f9.new w8.heap.size 0 (Nat.ne_of_lt y5_B1) (.int .i64 g0)).new w8.heap.size 1 (Nat.ne_of_lt y5_B1) (.int .i64 (-g1))).new w8.heap.size 2 (Nat.ne_of_lt y5_B1) (.int .i64 c)) (((B2_9.new w8.heap.size 0 (Nat.ne_of_lt y5_B2) (.int .i64 g0)).new w8.heap.size 1 (Nat.ne_of_lt y5_B2) (.int .i64 (-g1))).new w8.heap.size 2 (Nat.ne_of_lt y5_B2) (.int .i64 c)) (((B3_9.put 0 (of_decide_eq_true rfl) (.int .i64 g0) [.int .i64 g0, .int .i64 0, .int .i64 0] rfl).put 1 (of_decide_eq_true rfl) (.int .i64 (-g1)) [.int .i64 g0, .int .i64 (-g1), .int .i64 0] rfl).put 2 (of_decide_eq_true rfl) (.int .i64 c) [.int .i64 g0, .int .i64 (-g1), .int .i64 c] rfl) y5_low y5_B0 y5_B1 y5_B2
      · have y6_B0 : w.heap.size < w7.heap.size := B0_7.lies
        have y6_B1 : w2.heap.size < w7.heap.size := f7.lies
        have y6_B2 : w3.heap.size < w7.heap.size := B2_7.lies
        have y6_low : w.heap.size ≤ w7.heap.size := K7.size
        go_simp
        clear hHeld
        refine hK.out _ _ (B0_7.alloc _) (fun hHeld => ?_)
        clear hK K
        refine call_at (i := 12) (by kernel_rfl) rfl (fun K hK => ?_)
        go_simp
        refine (Cos_any w2.heap.size false o.2.2.2.1 _ (f7.alloc _)).mono ?_
        rintro e w8 ⟨rfl, f8, k8⟩
        rw [hcn] at f8 ⊢
        dsimp only at f8 ⊢
        have K8 : Below w.heap.size w w8 := k8.on (bel_al K7 _) (by omega)
        have B0_8 : Arr w.heap.size [.int .i64 o.1, .int .i64 o.2.1, .int .i64 o.2.2.1, .int .i64 o.2.2.2.1, .int .i64 o.2.2.2.2.1, .int .i64 o.2.2.2.2.2.1, .int .i64 o.2.2.2.2.2.2] w8 := (B0_7.alloc _).kept k8 (Nat.ne_of_lt y2_B0)
        have B2_8 : Arr w3.heap.size [.int .i64 x, .int .i64 y, .int .i64 z] w8 := (B2_7.alloc _).kept k8 (Nat.ne_of_gt y3_B1)
        have B3_8 : Arr w7.heap.size [.int .i64 0, .int .i64 0, .int .i64 0] w8 := (Arr_at _ _ [.int .i64 0, .int .i64 0, .int .i64 0] _ (by simp)).kept k8 (Nat.ne_of_gt y6_B1)
        have z8 := B3_8.lies
        clear hHeld
        refine hK.out _ _ B0_8 (fun hHeld => ?_)
        clear hK K K7 B0_7 f7 B2_7 k8
        refine call_at (i := 13) (by kernel_rfl) rfl (fun K hK => ?_)
        go_simp
        refine (Mul_any w2.heap.size false s cn _ f8).mono ?_
        rintro e w9 ⟨rfl, f9, k9⟩
        rw [h1] at f9 ⊢
        dsimp only at f9 ⊢
        have K9 : Below w.heap.size w w9 := k9.on K8 (by omega)
        have B0_9 : Arr w.heap.size [.int .i64 o.1, .int .i64 o.2.1, .int .i64 o.2.2.1, .int .i64 o.2.2.2.1, .int .i64 o.2.2.2.2.1, .int .i64 o.2.2.2.2.2.1, .int .i64 o.2.2.2.2.2.2] w9 := B0_8.kept k9 (Nat.ne_of_lt y2_B0)
        have B2_9 : Arr w3.heap.size [.int .i64 x, .int .i64 y, .int .i64 z] w9 := B2_8.kept k9 (Nat.ne_of_gt y3_B1)
        have B3_9 : Arr w7.heap.size [.int .i64 0, .int .i64 0, .int .i64 0] w9 := B3_8.kept k9 (Nat.ne_of_gt y6_B1)
        have z9 := B3_9.lies
        clear hHeld
        refine hK.out _ _ B0_9 (fun hHeld => ?_)
        clear hK K K8 B0_8 f8 B2_8 B3_8 k9
        refine take_at (i := 14) (v := ?v24) rfl (by kernel_rfl) (by kernel_rfl) (by kernel_rfl) (fun _ _ _ h => h) (Or.inl ⟨by rfl, ?y24⟩) hHeld ?t24
        case y24 => (intro wx hSw; go_simp <;> with_reducible rfl)
        simp only [Act.put, List.setIfInBounds_toArray, List.set_cons_zero, List.set_cons_succ]
        rw [IntWalk.i64_in (-g1) (by omega)]
        refine take_at (i := 16) (v := ?v25) rfl (by kernel_rfl) (by kernel_rfl) (by kernel_rfl) (fun _ _ _ h => h) (Or.inl ⟨by rfl, ?y25⟩) hHeld ?t25
        case y25 => (intro wx hSw; go_simp <;> with_reducible rfl)
        simp only [Act.put, List.setIfInBounds_toArray, List.set_cons_zero, List.set_cons_succ]
        refine call_at (i := 18) (by kernel_rfl) rfl (fun K hK => ?_)
        have c7_B3_0 : w9.cell? ⟨w7.heap.size, 0, none⟩ = some (.int .i64 0) := B3_9.c 0 (of_decide_eq_true rfl)
        have c7_B3_1 : w9.cell? ⟨w7.heap.size, 1, none⟩ = some (.int .i64 0) := B3_9.c 1 (of_decide_eq_true rfl)
        have c7_B3_2 : w9.cell? ⟨w7.heap.size, 2, none⟩ = some (.int .i64 0) := B3_9.c 2 (of_decide_eq_true rfl)
        have g7_B3_0 := B3_9.f 0 (of_decide_eq_true rfl)
        have g7_B3_1 := B3_9.f 1 (of_decide_eq_true rfl)
        have g7_B3_2 := B3_9.f 2 (of_decide_eq_true rfl)
        go_simp
        clear hHeld
        refine hK.out _ _ (((B0_9.new w7.heap.size 0 (Nat.ne_of_lt y6_B0) (.int .i64 g0)).new w7.heap.size 1 (Nat.ne_of_lt y6_B0) (.int .i64 (-g1))).new w7.heap.size 2 (Nat.ne_of_lt y6_B0) (.int .i64 c)) (fun hHeld => ?_)
        clear hK K c7_B3_0 c7_B3_1 c7_B3_2 g7_B3_0 g7_B3_1 g7_B3_2
        refine wpAnyH_done (by kernel_rfl) ?_ _
        clear hHeld
        refine put_cont hKK1 ?_
        exact cont1 _ _ _ _ _ _ _ _ _ _ _ _ _ _ _ _ _ _ _ _ _ _ _ _ _ _ _ _ _ _ _ _ _ _ _ _ _ _ w7.heap.size (bel_new (bel_new (bel_new K9 _ _ y6_low _) _ _ y6_low _) _ _ y6_low _) (((B0_9.new w7.heap.size 0 (Nat.ne_of_lt y6_B0) (.int .i64 g0)).new w7.heap.size 1 (Nat.ne_of_lt y6_B0) (.int .i64 (-g1))).new w7.heap.size 2 (Nat.ne_of_lt y6_B0) (.int .i64 c)) (((f9.new w7.heap.size 0 (Nat.ne_of_lt y6_B1) (.int .i64 g0)).new w7.heap.size 1 (Nat.ne_of_lt y6_B1) (.int .i64 (-g1))).new w7.heap.size 2 (Nat.ne_of_lt y6_B1) (.int .i64 c)) (((B2_9.new w7.heap.size 0 (Nat.ne_of_lt y6_B2) (.int .i64 g0)).new w7.heap.size 1 (Nat.ne_of_lt y6_B2) (.int .i64 (-g1))).new w7.heap.size 2 (Nat.ne_of_lt y6_B2) (.int .i64 c)) (((B3_9.put 0 (of_decide_eq_true rfl) (.int .i64 g0) [.int .i64 g0, .int .i64 0, .int .i64 0] rfl).put 1 (of_decide_eq_true rfl) (.int .i64 (-g1)) [.int .i64 g0, .int .i64 (-g1), .int .i64 0] rfl).put 2 (of_decide_eq_true rfl) (.int .i64 c) [.int .i64 g0, .int .i64 (-g1), .int .i64 c] rfl) y6_low y6_B0 y6_B1 y6_B2
    · have y7_B0 : w.heap.size < w6.heap.size := B0_6.lies
      have y7_B1 : w2.heap.size < w6.heap.size := f6.lies
      have y7_B2 : w3.heap.size < w6.heap.size := B2_6.lies
      have y7_low : w.heap.size ≤ w6.heap.size := K6.size
      go_simp
      clear hHeld
      refine hK.out _ _ (B0_6.alloc _) (fun hHeld => ?_)
      clear hK K
      refine call_at (i := 6) (by kernel_rfl) rfl (fun K hK => ?_)
      go_simp
      refine (Mul_any w2.heap.size false s sn _ (f6.alloc _)).mono ?_
      rintro e w7 ⟨rfl, f7, k7⟩
      rw [h0] at f7 ⊢
      dsimp only at f7 ⊢
      have K7 : Below w.heap.size w w7 := k7.on (bel_al K6 _) (by omega)
      have B0_7 : Arr w.heap.size [.int .i64 o.1, .int .i64 o.2.1, .int .i64 o.2.2.1, .int .i64 o.2.2.2.1, .int .i64 o.2.2.2.2.1, .int .i64 o.2.2.2.2.2.1, .int .i64 o.2.2.2.2.2.2] w7 := (B0_6.alloc _).kept k7 (Nat.ne_of_lt y2_B0)
      have B2_7 : Arr w3.heap.size [.int .i64 x, .int .i64 y, .int .i64 z] w7 := (B2_6.alloc _).kept k7 (Nat.ne_of_gt y3_B1)
      have B3_7 : Arr w6.heap.size [.int .i64 0, .int .i64 0, .int .i64 0] w7 := (Arr_at _ _ [.int .i64 0, .int .i64 0, .int .i64 0] _ (by simp)).kept k7 (Nat.ne_of_gt y7_B1)
      have z7 := B3_7.lies
      clear hHeld
      refine hK.out _ _ B0_7 (fun hHeld => ?_)
      clear hK K K6 B0_6 f6 B2_6 k7
      refine call_at (i := 12) (by kernel_rfl) rfl (fun K hK => ?_)
      go_simp
      refine (Cos_any w2.heap.size false o.2.2.2.1 _ f7).mono ?_
      rintro e w8 ⟨rfl, f8, k8⟩
      rw [hcn] at f8 ⊢
      dsimp only at f8 ⊢
      have K8 : Below w.heap.size w w8 := k8.on K7 (by omega)
      have B0_8 : Arr w.heap.size [.int .i64 o.1, .int .i64 o.2.1, .int .i64 o.2.2.1, .int .i64 o.2.2.2.1, .int .i64 o.2.2.2.2.1, .int .i64 o.2.2.2.2.2.1, .int .i64 o.2.2.2.2.2.2] w8 := B0_7.kept k8 (Nat.ne_of_lt y2_B0)
      have B2_8 : Arr w3.heap.size [.int .i64 x, .int .i64 y, .int .i64 z] w8 := B2_7.kept k8 (Nat.ne_of_gt y3_B1)
      have B3_8 : Arr w6.heap.size [.int .i64 0, .int .i64 0, .int .i64 0] w8 := B3_7.kept k8 (Nat.ne_of_gt y7_B1)
      have z8 := B3_8.lies
      clear hHeld
      refine hK.out _ _ B0_8 (fun hHeld => ?_)
      clear hK K K7 B0_7 f7 B2_7 B3_7 k8
      refine call_at (i := 13) (by kernel_rfl) rfl (fun K hK => ?_)
      go_simp
      refine (Mul_any w2.heap.size false s cn _ f8).mono ?_
      rintro e w9 ⟨rfl, f9, k9⟩
      rw [h1] at f9 ⊢
      dsimp only at f9 ⊢
      have K9 : Below w.heap.size w w9 := k9.on K8 (by omega)
      have B0_9 : Arr w.heap.size [.int .i64 o.1, .int .i64 o.2.1, .int .i64 o.2.2.1, .int .i64 o.2.2.2.1, .int .i64 o.2.2.2.2.1, .int .i64 o.2.2.2.2.2.1, .int .i64 o.2.2.2.2.2.2] w9 := B0_8.kept k9 (Nat.ne_of_lt y2_B0)
      have B2_9 : Arr w3.heap.size [.int .i64 x, .int .i64 y, .int .i64 z] w9 := B2_8.kept k9 (Nat.ne_of_gt y3_B1)
      have B3_9 : Arr w6.heap.size [.int .i64 0, .int .i64 0, .int .i64 0] w9 := B3_8.kept k9 (Nat.ne_of_gt y7_B1)
      have z9 := B3_9.lies
      clear hHeld
      refine hK.out _ _ B0_9 (fun hHeld => ?_)
      clear hK K K8 B0_8 f8 B2_8 B3_8 k9
      refine take_at (i := 14) (v := ?v26) rfl (by kernel_rfl) (by kernel_rfl) (by kernel_rfl) (fun _ _ _ h => h) (Or.inl ⟨by rfl, ?y26⟩) hHeld ?t26
      case y26 => (intro wx hSw; go_simp <;> with_reducible rfl)
      simp only [Act.put, List.setIfInBounds_toArray, List.set_cons_zero, List.set_cons_succ]
      rw [IntWalk.i64_in (-g1) (by omega)]
      refine take_at (i := 16) (v := ?v27) rfl (by kernel_rfl) (by kernel_rfl) (by kernel_rfl) (fun _ _ _ h => h) (Or.inl ⟨by rfl, ?y27⟩) hHeld ?t27
      case y27 => (intro wx hSw; go_simp <;> with_reducible rfl)
      simp only [Act.put, List.setIfInBounds_toArray, List.set_cons_zero, List.set_cons_succ]
      refine call_at (i := 18) (by kernel_rfl) rfl (fun K hK => ?_)
      have c7_B3_0 : w9.cell? ⟨w6.heap.size, 0, none⟩ = some (.int .i64 0) := B3_9.c 0 (of_decide_eq_true rfl)
      have c7_B3_1 : w9.cell? ⟨w6.heap.size, 1, none⟩ = some (.int .i64 0) := B3_9.c 1 (of_decide_eq_true rfl)
      have c7_B3_2 : w9.cell? ⟨w6.heap.size, 2, none⟩ = some (.int .i64 0) := B3_9.c 2 (of_decide_eq_true rfl)
      have g7_B3_0 := B3_9.f 0 (of_decide_eq_true rfl)
      have g7_B3_1 := B3_9.f 1 (of_decide_eq_true rfl)
      have g7_B3_2 := B3_9.f 2 (of_decide_eq_true rfl)
      go_simp
      clear hHeld
      refine hK.out _ _ (((B0_9.new w6.heap.size 0 (Nat.ne_of_lt y7_B0) (.int .i64 g0)).new w6.heap.size 1 (Nat.ne_of_lt y7_B0) (.int .i64 (-g1))).new w6.heap.size 2 (Nat.ne_of_lt y7_B0) (.int .i64 c)) (fun hHeld => ?_)
      clear hK K c7_B3_0 c7_B3_1 c7_B3_2 g7_B3_0 g7_B3_1 g7_B3_2
      refine wpAnyH_done (by kernel_rfl) ?_ _
      clear hHeld
      refine put_cont hKK1 ?_
      exact cont1 _ _ _ _ _ _ _ _ _ _ _ _ _ _ _ _ _ _ _ _ _ _ _ _ _ _ _ _ _ _ _ _ _ _ _ _ _ _ w6.heap.size (bel_new (bel_new (bel_new K9 _ _ y7_low _) _ _ y7_low _) _ _ y7_low _) (((B0_9.new w6.heap.size 0 (Nat.ne_of_lt y7_B0) (.int .i64 g0)).new w6.heap.size 1 (Nat.ne_of_lt y7_B0) (.int .i64 (-g1))).new w6.heap.size 2 (Nat.ne_of_lt y7_B0) (.int .i64 c)) (((f9.new w6.heap.size 0 (Nat.ne_of_lt y7_B1) (.int .i64 g0)).new w6.heap.size 1 (Nat.ne_of_lt y7_B1) (.int .i64 (-g1))).new w6.heap.size 2 (Nat.ne_of_lt y7_B1) (.int .i64 c)) (((B2_9.new w6.heap.size 0 (Nat.ne_of_lt y7_B2) (.int .i64 g0)).new w6.heap.size 1 (Nat.ne_of_lt y7_B2) (.int .i64 (-g1))).new w6.heap.size 2 (Nat.ne_of_lt y7_B2) (.int .i64 c)) (((B3_9.put 0 (of_decide_eq_true rfl) (.int .i64 g0) [.int .i64 g0, .int .i64 0, .int .i64 0] rfl).put 1 (of_decide_eq_true rfl) (.int .i64 (-g1)) [.int .i64 g0, .int .i64 (-g1), .int .i64 0] rfl).put 2 (of_decide_eq_true rfl) (.int .i64 c) [.int .i64 g0, .int .i64 (-g1), .int .i64 c] rfl) y7_low y7_B0 y7_B1 y7_B2
  · have y8_B0 : w.heap.size < w5.heap.size := B0_5.lies
    have y8_B1 : w2.heap.size < w5.heap.size := f5.lies
    have y8_B2 : w3.heap.size < w5.heap.size := B2_5.lies
    have y8_low : w.heap.size ≤ w5.heap.size := K5.size
    go_simp
    clear hHeld
    refine hK.out _ _ (B0_5.alloc _).drew (fun hHeld => ?_)
    clear hK K
    refine call_at (i := 5) (by kernel_rfl) rfl (fun K hK => ?_)
    go_simp
    refine (Sin_any w2.heap.size false o.2.2.2.1 _ (f5.alloc _).drew).mono ?_
    rintro e w6 ⟨rfl, f6, k6⟩
    rw [hsn] at f6 ⊢
    dsimp only at f6 ⊢
    have K6 : Below w.heap.size w w6 := k6.on (Below.drew (bel_al K5 _)) (by omega)
    have B0_6 : Arr w.heap.size [.int .i64 o.1, .int .i64 o.2.1, .int .i64 o.2.2.1, .int .i64 o.2.2.2.1, .int .i64 o.2.2.2.2.1, .int .i64 o.2.2.2.2.2.1, .int .i64 o.2.2.2.2.2.2] w6 := (B0_5.alloc _).drew.kept k6 (Nat.ne_of_lt y2_B0)
    have B2_6 : Arr w3.heap.size [.int .i64 x, .int .i64 y, .int .i64 z] w6 := (B2_5.alloc _).drew.kept k6 (Nat.ne_of_gt y3_B1)
    have B3_6 : Arr w5.heap.size [.int .i64 0, .int .i64 0, .int .i64 0] w6 := (Arr_at _ _ [.int .i64 0, .int .i64 0, .int .i64 0] _ (by simp)).drew.kept k6 (Nat.ne_of_gt y8_B1)
    have z6 := B3_6.lies
    clear hHeld
    refine hK.out _ _ B0_6 (fun hHeld => ?_)
    clear hK K K5 B0_5 f5 B2_5 k6
    refine call_at (i := 6) (by kernel_rfl) rfl (fun K hK => ?_)
    go_simp
    refine (Mul_any w2.heap.size false s sn _ f6).mono ?_
    rintro e w7 ⟨rfl, f7, k7⟩
    rw [h0] at f7 ⊢
    dsimp only at f7 ⊢
    have K7 : Below w.heap.size w w7 := k7.on K6 (by omega)
    have B0_7 : Arr w.heap.size [.int .i64 o.1, .int .i64 o.2.1, .int .i64 o.2.2.1, .int .i64 o.2.2.2.1, .int .i64 o.2.2.2.2.1, .int .i64 o.2.2.2.2.2.1, .int .i64 o.2.2.2.2.2.2] w7 := B0_6.kept k7 (Nat.ne_of_lt y2_B0)
    have B2_7 : Arr w3.heap.size [.int .i64 x, .int .i64 y, .int .i64 z] w7 := B2_6.kept k7 (Nat.ne_of_gt y3_B1)
    have B3_7 : Arr w5.heap.size [.int .i64 0, .int .i64 0, .int .i64 0] w7 := B3_6.kept k7 (Nat.ne_of_gt y8_B1)
    have z7 := B3_7.lies
    clear hHeld
    refine hK.out _ _ B0_7 (fun hHeld => ?_)
    clear hK K K6 B0_6 f6 B2_6 B3_6 k7
    refine call_at (i := 12) (by kernel_rfl) rfl (fun K hK => ?_)
    go_simp
    refine (Cos_any w2.heap.size false o.2.2.2.1 _ f7).mono ?_
    rintro e w8 ⟨rfl, f8, k8⟩
    rw [hcn] at f8 ⊢
    dsimp only at f8 ⊢
    have K8 : Below w.heap.size w w8 := k8.on K7 (by omega)
    have B0_8 : Arr w.heap.size [.int .i64 o.1, .int .i64 o.2.1, .int .i64 o.2.2.1, .int .i64 o.2.2.2.1, .int .i64 o.2.2.2.2.1, .int .i64 o.2.2.2.2.2.1, .int .i64 o.2.2.2.2.2.2] w8 := B0_7.kept k8 (Nat.ne_of_lt y2_B0)
    have B2_8 : Arr w3.heap.size [.int .i64 x, .int .i64 y, .int .i64 z] w8 := B2_7.kept k8 (Nat.ne_of_gt y3_B1)
    have B3_8 : Arr w5.heap.size [.int .i64 0, .int .i64 0, .int .i64 0] w8 := B3_7.kept k8 (Nat.ne_of_gt y8_B1)
    have z8 := B3_8.lies
    clear hHeld
    refine hK.out _ _ B0_8 (fun hHeld => ?_)
    clear hK K K7 B0_7 f7 B2_7 B3_7 k8
    refine call_at (i := 13) (by kernel_rfl) rfl (fun K hK => ?_)
    go_simp
    refine (Mul_any w2.heap.size false s cn _ f8).mono ?_
    rintro e w9 ⟨rfl, f9, k9⟩
    rw [h1] at f9 ⊢
    dsimp only at f9 ⊢
    have K9 : Below w.heap.size w w9 := k9.on K8 (by omega)
    have B0_9 : Arr w.heap.size [.int .i64 o.1, .int .i64 o.2.1, .int .i64 o.2.2.1, .int .i64 o.2.2.2.1, .int .i64 o.2.2.2.2.1, .int .i64 o.2.2.2.2.2.1, .int .i64 o.2.2.2.2.2.2] w9 := B0_8.kept k9 (Nat.ne_of_lt y2_B0)
    have B2_9 : Arr w3.heap.size [.int .i64 x, .int .i64 y, .int .i64 z] w9 := B2_8.kept k9 (Nat.ne_of_gt y3_B1)
    have B3_9 : Arr w5.heap.size [.int .i64 0, .int .i64 0, .int .i64 0] w9 := B3_8.kept k9 (Nat.ne_of_gt y8_B1)
    have z9 := B3_9.lies
    clear hHeld
    refine hK.out _ _ B0_9 (fun hHeld => ?_)
    clear hK K K8 B0_8 f8 B2_8 B3_8 k9
    refine take_at (i := 14) (v := ?v28) rfl (by kernel_rfl) (by kernel_rfl) (by kernel_rfl) (fun _ _ _ h => h) (Or.inl ⟨by rfl, ?y28⟩) hHeld ?t28
    case y28 => (intro wx hSw; go_simp <;> with_reducible rfl)
    simp only [Act.put, List.setIfInBounds_toArray, List.set_cons_zero, List.set_cons_succ]
    rw [IntWalk.i64_in (-g1) (by omega)]
    refine take_at (i := 16) (v := ?v29) rfl (by kernel_rfl) (by kernel_rfl) (by kernel_rfl) (fun _ _ _ h => h) (Or.inl ⟨by rfl, ?y29⟩) hHeld ?t29
    case y29 => (intro wx hSw; go_simp <;> with_reducible rfl)
    simp only [Act.put, List.setIfInBounds_toArray, List.set_cons_zero, List.set_cons_succ]
    refine call_at (i := 18) (by kernel_rfl) rfl (fun K hK => ?_)
    have c7_B3_0 : w9.cell? ⟨w5.heap.size, 0, none⟩ = some (.int .i64 0) := B3_9.c 0 (of_decide_eq_true rfl)
    have c7_B3_1 : w9.cell? ⟨w5.heap.size, 1, none⟩ = some (.int .i64 0) := B3_9.c 1 (of_decide_eq_true rfl)
    have c7_B3_2 : w9.cell? ⟨w5.heap.size, 2, none⟩ = some (.int .i64 0) := B3_9.c 2 (of_decide_eq_true rfl)
    have g7_B3_0 := B3_9.f 0 (of_decide_eq_true rfl)
    have g7_B3_1 := B3_9.f 1 (of_decide_eq_true rfl)
    have g7_B3_2 := B3_9.f 2 (of_decide_eq_true rfl)
    go_simp
    clear hHeld
    refine hK.out _ _ (((B0_9.new w5.heap.size 0 (Nat.ne_of_lt y8_B0) (.int .i64 g0)).new w5.heap.size 1 (Nat.ne_of_lt y8_B0) (.int .i64 (-g1))).new w5.heap.size 2 (Nat.ne_of_lt y8_B0) (.int .i64 c)) (fun hHeld => ?_)
    clear hK K c7_B3_0 c7_B3_1 c7_B3_2 g7_B3_0 g7_B3_1 g7_B3_2
    refine wpAnyH_done (by kernel_rfl) ?_ _
    clear hHeld
    refine put_cont hKK1 ?_
    exact cont1 _ _ _ _ _ _ _ _ _ _ _ _ _ _ _ _ _ _ _ _ _ _ _ _ _ _ _ _ _ _ _ _ _ _ _ _ _ _ w5.heap.size (bel_new (bel_new (bel_new K9 _ _ y8_low _) _ _ y8_low _) _ _ y8_low _) (((B0_9.new w5.heap.size 0 (Nat.ne_of_lt y8_B0) (.int .i64 g0)).new w5.heap.size 1 (Nat.ne_of_lt y8_B0) (.int .i64 (-g1))).new w5.heap.size 2 (Nat.ne_of_lt y8_B0) (.int .i64 c)) (((f9.new w5.heap.size 0 (Nat.ne_of_lt y8_B1) (.int .i64 g0)).new w5.heap.size 1 (Nat.ne_of_lt y8_B1) (.int .i64 (-g1))).new w5.heap.size 2 (Nat.ne_of_lt y8_B1) (.int .i64 c)) (((B2_9.new w5.heap.size 0 (Nat.ne_of_lt y8_B2) (.int .i64 g0)).new w5.heap.size 1 (Nat.ne_of_lt y8_B2) (.int .i64 (-g1))).new w5.heap.size 2 (Nat.ne_of_lt y8_B2) (.int .i64 c)) (((B3_9.put 0 (of_decide_eq_true rfl) (.int .i64 g0) [.int .i64 g0, .int .i64 0, .int .i64 0] rfl).put 1 (of_decide_eq_true rfl) (.int .i64 (-g1)) [.int .i64 g0, .int .i64 (-g1), .int .i64 0] rfl).put 2 (of_decide_eq_true rfl) (.int .i64 c) [.int .i64 g0, .int .i64 (-g1), .int .i64 c] rfl) y8_low y8_B0 y8_B1 y8_B2
theorem OrbitPlane_any (o : V7) (w : World) :
    Calls Try.prog 8 #[.agg #[.int .i64 o.1, .int .i64 o.2.1, .int .i64 o.2.2.1, .int .i64 o.2.2.2.1, .int .i64 o.2.2.2.2.1, .int .i64 o.2.2.2.2.2.1, .int .i64 o.2.2.2.2.2.2]] w fun e w' => e = .returned (.bool true) ∧ Below w.heap.size w w' := by
  cases hr : oRightC o
  · exact OrbitPlane_a o w hr
  have O := oRightC_get hr
  obtain ⟨T⟩ := steps_at (o := o) (t := o.2.2.2.2.2.2) hr O.at_
  obtain ⟨U⟩ := T.Q.up T.G.sc
  have e0 : T.dt = T.da := congrArg Prod.fst (T.hdt.symm.trans T.hda)
  have k0 : T.G.kcd = 0 := mul_none (by omega) T.G.hkcd
  have hsn := less_none (f := sinA false) k0 T.Q.hsn
  have hcn := less_none (f := cosA false) k0 T.Q.hcn
  have b1 := U.gb1.lo; have b2 := U.gb1.hi
  exact OrbitPlane_in o w hr _ _ _ _ _ _ _ _ _ _ T.e T.G.hs T.G.hc hsn hcn U.h0 U.h1 (by omega) (by omega) (by unfold vDotS; simp only [U.k0, U.k1, U.a1, U.k2, U.a2]) U.hi U.lo
end Go.Proofs.Ytmjkmbhaemencaa
