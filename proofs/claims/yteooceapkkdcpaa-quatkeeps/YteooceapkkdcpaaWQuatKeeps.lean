/-
  The walk of the law QuatKeeps, for the seat Yteooceapkkdcpaa. (Made by mklaw04.py.)
-/
import Derived.Test.YteooceapkkdcpaaQAwake
import Derived.Test.YteooceapkkdcpaaQEqv
import Derived.Test.YteooceapkkdcpaaVEqv
import Derived.Test.YteooceapkkdcpaaQHelp
import Derived.Test.YteooceapkkdcpaaQTurn
import Derived.Handy
import Derived.Deep.RegionHeld3
namespace Go.Proofs.Yteooceapkkdcpaa
open Go.RowKit

set_option maxRecDepth 100000 in
set_option maxHeartbeats 4000000 in
theorem QuatKeeps_q (q : V4) (v : V3) (w : World) (hu : qUnitS false q = ((0, 0, 0, 0), true)) :
    Calls Try.prog 7 #[.agg #[.int .i64 q.1, .int .i64 q.2.1, .int .i64 q.2.2.1, .int .i64 q.2.2.2], .agg #[.int .i64 v.1, .int .i64 v.2.1, .int .i64 v.2.2]] w fun e w' => e = .returned (.bool true) ∧ Below w.heap.size w w' := by
  go_enter Try.func7, Try.ntmps7
  go_wp2_with fail
  refine (awake_any  _).mono ?_
  rintro e w1 ⟨rfl, k1⟩
  have K1 : Below w.heap.size w w1 := bel_then (bel_al (bel_al (Below.refl w.heap.size w) _) _) k1
  have B0_1 : Arr w.heap.size [.int .i64 q.1, .int .i64 q.2.1, .int .i64 q.2.2.1, .int .i64 q.2.2.2] w1 := ((Arr_at _ _ [.int .i64 q.1, .int .i64 q.2.1, .int .i64 q.2.2.1, .int .i64 q.2.2.2] _ (by simp)).alloc _).below k1
  have B1_1 : Arr (w.heap.size + 1) [.int .i64 v.1, .int .i64 v.2.1, .int .i64 v.2.2] w1 := (Arr_at _ _ [.int .i64 v.1, .int .i64 v.2.1, .int .i64 v.2.2] _ (by simp)).below k1
  have z1 := B1_1.lies
  clear k1
  have c2_B0_0 : w1.cell? ⟨w.heap.size, 0, none⟩ = some (.int .i64 q.1) := B0_1.c 0 (of_decide_eq_true rfl)
  have c2_B0_1 : w1.cell? ⟨w.heap.size, 1, none⟩ = some (.int .i64 q.2.1) := B0_1.c 1 (of_decide_eq_true rfl)
  have c2_B0_2 : w1.cell? ⟨w.heap.size, 2, none⟩ = some (.int .i64 q.2.2.1) := B0_1.c 2 (of_decide_eq_true rfl)
  have c2_B0_3 : w1.cell? ⟨w.heap.size, 3, none⟩ = some (.int .i64 q.2.2.2) := B0_1.c 3 (of_decide_eq_true rfl)
  go_wp2_with fail
  refine (lunit_any q _).mono ?_
  rintro e w2 ⟨rfl, k2⟩
  rw [hu]
  try dsimp only
  have K2 : Below w.heap.size w w2 := bel_then K1 k2
  have B0_2 : Arr w.heap.size [.int .i64 q.1, .int .i64 q.2.1, .int .i64 q.2.2.1, .int .i64 q.2.2.2] w2 := B0_1.below k2
  have B1_2 : Arr (w.heap.size + 1) [.int .i64 v.1, .int .i64 v.2.1, .int .i64 v.2.2] w2 := B1_1.below k2
  have z2 := B1_2.lies
  clear c2_B0_0 c2_B0_1 c2_B0_2 c2_B0_3 K1 B0_1 B1_1 k2
  go_wp2
  go_ret
  exact ⟨rfl, (bel_al K2 _)⟩
set_option maxRecDepth 100000 in
set_option maxHeartbeats 4000000 in
theorem QuatKeeps_v (q : V4) (v : V3) (w : World) (u0 u1 u2 u3 : Int) (hu : qUnitS false q = ((u0, u1, u2, u3), false)) (v0 : -9223372036854775808 ≤ v.1 ∧ v.1 ≤ 9223372036854775807) (v1 : -9223372036854775808 ≤ v.2.1 ∧ v.2.1 ≤ 9223372036854775807) (v2 : -9223372036854775808 ≤ v.2.2 ∧ v.2.2 ≤ 9223372036854775807) (hv : nearS v (0, 0, 0) 1099511627776 = false) :
    Calls Try.prog 7 #[.agg #[.int .i64 q.1, .int .i64 q.2.1, .int .i64 q.2.2.1, .int .i64 q.2.2.2], .agg #[.int .i64 v.1, .int .i64 v.2.1, .int .i64 v.2.2]] w fun e w' => e = .returned (.bool true) ∧ Below w.heap.size w w' := by
  go_enter Try.func7, Try.ntmps7
  go_wp2_with fail
  refine (awake_any  _).mono ?_
  rintro e w1 ⟨rfl, k1⟩
  have K1 : Below w.heap.size w w1 := bel_then (bel_al (bel_al (Below.refl w.heap.size w) _) _) k1
  have B0_1 : Arr w.heap.size [.int .i64 q.1, .int .i64 q.2.1, .int .i64 q.2.2.1, .int .i64 q.2.2.2] w1 := ((Arr_at _ _ [.int .i64 q.1, .int .i64 q.2.1, .int .i64 q.2.2.1, .int .i64 q.2.2.2] _ (by simp)).alloc _).below k1
  have B1_1 : Arr (w.heap.size + 1) [.int .i64 v.1, .int .i64 v.2.1, .int .i64 v.2.2] w1 := (Arr_at _ _ [.int .i64 v.1, .int .i64 v.2.1, .int .i64 v.2.2] _ (by simp)).below k1
  have z1 := B1_1.lies
  clear k1
  have c2_B0_0 : w1.cell? ⟨w.heap.size, 0, none⟩ = some (.int .i64 q.1) := B0_1.c 0 (of_decide_eq_true rfl)
  have c2_B0_1 : w1.cell? ⟨w.heap.size, 1, none⟩ = some (.int .i64 q.2.1) := B0_1.c 1 (of_decide_eq_true rfl)
  have c2_B0_2 : w1.cell? ⟨w.heap.size, 2, none⟩ = some (.int .i64 q.2.2.1) := B0_1.c 2 (of_decide_eq_true rfl)
  have c2_B0_3 : w1.cell? ⟨w.heap.size, 3, none⟩ = some (.int .i64 q.2.2.2) := B0_1.c 3 (of_decide_eq_true rfl)
  go_wp2_with fail
  refine (lunit_any q _).mono ?_
  rintro e w2 ⟨rfl, k2⟩
  rw [hu]
  try dsimp only
  have K2 : Below w.heap.size w w2 := bel_then K1 k2
  have B0_2 : Arr w.heap.size [.int .i64 q.1, .int .i64 q.2.1, .int .i64 q.2.2.1, .int .i64 q.2.2.2] w2 := B0_1.below k2
  have B1_2 : Arr (w.heap.size + 1) [.int .i64 v.1, .int .i64 v.2.1, .int .i64 v.2.2] w2 := B1_1.below k2
  have z2 := B1_2.lies
  clear c2_B0_0 c2_B0_1 c2_B0_2 c2_B0_3 K1 B0_1 B1_1 k2
  have c3_B1_0 : w2.cell? ⟨w.heap.size + 1, 0, none⟩ = some (.int .i64 v.1) := B1_2.c 0 (of_decide_eq_true rfl)
  have c3_B1_1 : w2.cell? ⟨w.heap.size + 1, 1, none⟩ = some (.int .i64 v.2.1) := B1_2.c 1 (of_decide_eq_true rfl)
  have c3_B1_2 : w2.cell? ⟨w.heap.size + 1, 2, none⟩ = some (.int .i64 v.2.2) := B1_2.c 2 (of_decide_eq_true rfl)
  have l3_B1 := B1_2.lies
  go_wp2_with fail
  refine (near_any v (0, 0, 0) 1099511627776 _ (by first | omega | (dsimp only; omega)) (by first | omega | (dsimp only; omega)) (by first | omega | (dsimp only; omega)) (by omega)).mono ?_
  rintro e w3 ⟨rfl, k3⟩
  rw [hv]
  try dsimp only
  have K3 : Below w.heap.size w w3 := bel_then (bel_al K2 _) k3
  have B0_3 : Arr w.heap.size [.int .i64 q.1, .int .i64 q.2.1, .int .i64 q.2.2.1, .int .i64 q.2.2.2] w3 := (B0_2.alloc _).below k3
  have B1_3 : Arr (w.heap.size + 1) [.int .i64 v.1, .int .i64 v.2.1, .int .i64 v.2.2] w3 := (B1_2.alloc _).below k3
  have B2_3 : Arr w2.heap.size [.int .i64 u0, .int .i64 u1, .int .i64 u2, .int .i64 u3] w3 := (Arr_at _ _ [.int .i64 u0, .int .i64 u1, .int .i64 u2, .int .i64 u3] _ (by simp)).below k3
  have z3 := B2_3.lies
  clear c3_B1_0 c3_B1_1 c3_B1_2 l3_B1 K2 B0_2 B1_2 k3
  go_wp2
  go_ret
  exact ⟨rfl, K3⟩
set_option maxRecDepth 100000 in
set_option maxHeartbeats 4000000 in
theorem QuatKeeps_good (q : V4) (v : V3) (w : World) (t0 t1 t2 N J b0 b1 b2 : Int) (u0 u1 u2 u3 : Int) (hu : qUnitS false q = ((u0, u1, u2, u3), false)) (v0 : -9223372036854775808 ≤ v.1 ∧ v.1 ≤ 9223372036854775807) (v1 : -9223372036854775808 ≤ v.2.1 ∧ v.2.1 ≤ 9223372036854775807) (v2 : -9223372036854775808 ≤ v.2.2 ∧ v.2.2 ≤ 9223372036854775807) (hv : nearS v (0, 0, 0) 1099511627776 = true) (ht : qTurnS false (u0, u1, u2, u3) v = ((t0, t1, t2), false)) (hN : vNormS false (t0, t1, t2) = (N, false)) (hM : vNormS false v = (J, false)) (hb : qBackS (u0, u1, u2, u3) = ((-u0), (-u1), (-u2), u3)) (hr : qTurnS false ((-u0), (-u1), (-u2), u3) (t0, t1, t2) = ((b0, b1, b2), false)) (d1 : -1024 ≤ N - J) (d2 : N - J ≤ 1024) (n0 : -1024 ≤ b0 - v.1 ∧ b0 - v.1 ≤ 1024) (n1 : -1024 ≤ b1 - v.2.1 ∧ b1 - v.2.1 ≤ 1024) (n2 : -1024 ≤ b2 - v.2.2 ∧ b2 - v.2.2 ≤ 1024) (hn : nearS (b0, b1, b2) v 1024 = true) :
    Calls Try.prog 7 #[.agg #[.int .i64 q.1, .int .i64 q.2.1, .int .i64 q.2.2.1, .int .i64 q.2.2.2], .agg #[.int .i64 v.1, .int .i64 v.2.1, .int .i64 v.2.2]] w fun e w' => e = .returned (.bool true) ∧ Below w.heap.size w w' := by
  go_enter Try.func7, Try.ntmps7
  go_wp2_with fail
  refine (awake_any  _).mono ?_
  rintro e w1 ⟨rfl, k1⟩
  have K1 : Below w.heap.size w w1 := bel_then (bel_al (bel_al (Below.refl w.heap.size w) _) _) k1
  have B0_1 : Arr w.heap.size [.int .i64 q.1, .int .i64 q.2.1, .int .i64 q.2.2.1, .int .i64 q.2.2.2] w1 := ((Arr_at _ _ [.int .i64 q.1, .int .i64 q.2.1, .int .i64 q.2.2.1, .int .i64 q.2.2.2] _ (by simp)).alloc _).below k1
  have B1_1 : Arr (w.heap.size + 1) [.int .i64 v.1, .int .i64 v.2.1, .int .i64 v.2.2] w1 := (Arr_at _ _ [.int .i64 v.1, .int .i64 v.2.1, .int .i64 v.2.2] _ (by simp)).below k1
  have z1 := B1_1.lies
  clear k1
  have c2_B0_0 : w1.cell? ⟨w.heap.size, 0, none⟩ = some (.int .i64 q.1) := B0_1.c 0 (of_decide_eq_true rfl)
  have c2_B0_1 : w1.cell? ⟨w.heap.size, 1, none⟩ = some (.int .i64 q.2.1) := B0_1.c 1 (of_decide_eq_true rfl)
  have c2_B0_2 : w1.cell? ⟨w.heap.size, 2, none⟩ = some (.int .i64 q.2.2.1) := B0_1.c 2 (of_decide_eq_true rfl)
  have c2_B0_3 : w1.cell? ⟨w.heap.size, 3, none⟩ = some (.int .i64 q.2.2.2) := B0_1.c 3 (of_decide_eq_true rfl)
  go_wp2_with fail
  refine (lunit_any q _).mono ?_
  rintro e w2 ⟨rfl, k2⟩
  rw [hu]
  try dsimp only
  have K2 : Below w.heap.size w w2 := bel_then K1 k2
  have B0_2 : Arr w.heap.size [.int .i64 q.1, .int .i64 q.2.1, .int .i64 q.2.2.1, .int .i64 q.2.2.2] w2 := B0_1.below k2
  have B1_2 : Arr (w.heap.size + 1) [.int .i64 v.1, .int .i64 v.2.1, .int .i64 v.2.2] w2 := B1_1.below k2
  have z2 := B1_2.lies
  clear c2_B0_0 c2_B0_1 c2_B0_2 c2_B0_3 K1 B0_1 B1_1 k2
  have c3_B1_0 : w2.cell? ⟨w.heap.size + 1, 0, none⟩ = some (.int .i64 v.1) := B1_2.c 0 (of_decide_eq_true rfl)
  have c3_B1_1 : w2.cell? ⟨w.heap.size + 1, 1, none⟩ = some (.int .i64 v.2.1) := B1_2.c 1 (of_decide_eq_true rfl)
  have c3_B1_2 : w2.cell? ⟨w.heap.size + 1, 2, none⟩ = some (.int .i64 v.2.2) := B1_2.c 2 (of_decide_eq_true rfl)
  have l3_B1 := B1_2.lies
  go_wp2_with fail
  refine (near_any v (0, 0, 0) 1099511627776 _ (by first | omega | (dsimp only; omega)) (by first | omega | (dsimp only; omega)) (by first | omega | (dsimp only; omega)) (by omega)).mono ?_
  rintro e w3 ⟨rfl, k3⟩
  rw [hv]
  try dsimp only
  have K3 : Below w.heap.size w w3 := bel_then (bel_al K2 _) k3
  have B0_3 : Arr w.heap.size [.int .i64 q.1, .int .i64 q.2.1, .int .i64 q.2.2.1, .int .i64 q.2.2.2] w3 := (B0_2.alloc _).below k3
  have B1_3 : Arr (w.heap.size + 1) [.int .i64 v.1, .int .i64 v.2.1, .int .i64 v.2.2] w3 := (B1_2.alloc _).below k3
  have B2_3 : Arr w2.heap.size [.int .i64 u0, .int .i64 u1, .int .i64 u2, .int .i64 u3] w3 := (Arr_at _ _ [.int .i64 u0, .int .i64 u1, .int .i64 u2, .int .i64 u3] _ (by simp)).below k3
  have z3 := B2_3.lies
  clear c3_B1_0 c3_B1_1 c3_B1_2 l3_B1 K2 B0_2 B1_2 k3
  have c4_B1_0 : w3.cell? ⟨w.heap.size + 1, 0, none⟩ = some (.int .i64 v.1) := B1_3.c 0 (of_decide_eq_true rfl)
  have c4_B1_1 : w3.cell? ⟨w.heap.size + 1, 1, none⟩ = some (.int .i64 v.2.1) := B1_3.c 1 (of_decide_eq_true rfl)
  have c4_B1_2 : w3.cell? ⟨w.heap.size + 1, 2, none⟩ = some (.int .i64 v.2.2) := B1_3.c 2 (of_decide_eq_true rfl)
  have c4_B2_0 : w3.cell? ⟨w2.heap.size, 0, none⟩ = some (.int .i64 u0) := B2_3.c 0 (of_decide_eq_true rfl)
  have c4_B2_1 : w3.cell? ⟨w2.heap.size, 1, none⟩ = some (.int .i64 u1) := B2_3.c 1 (of_decide_eq_true rfl)
  have c4_B2_2 : w3.cell? ⟨w2.heap.size, 2, none⟩ = some (.int .i64 u2) := B2_3.c 2 (of_decide_eq_true rfl)
  have c4_B2_3 : w3.cell? ⟨w2.heap.size, 3, none⟩ = some (.int .i64 u3) := B2_3.c 3 (of_decide_eq_true rfl)
  have l4_B1 := B1_3.lies
  have l4_B2 := B2_3.lies
  go_wp2_with fail
  refine (qTurn_any w3.heap.size false (u0, u1, u2, u3) v _ (Fl_at _ _ _ _ (by simp))).mono ?_
  rintro e w4 ⟨rfl, f4, k4⟩
  rw [ht] at f4 ⊢
  dsimp only at f4 ⊢
  have K4 : Below w.heap.size w w4 := k4.on (bel_al K3 _) (by omega)
  have B0_4 : Arr w.heap.size [.int .i64 q.1, .int .i64 q.2.1, .int .i64 q.2.2.1, .int .i64 q.2.2.2] w4 := (B0_3.alloc _).kept k4 (by omega)
  have B1_4 : Arr (w.heap.size + 1) [.int .i64 v.1, .int .i64 v.2.1, .int .i64 v.2.2] w4 := (B1_3.alloc _).kept k4 (by omega)
  have B2_4 : Arr w2.heap.size [.int .i64 u0, .int .i64 u1, .int .i64 u2, .int .i64 u3] w4 := (B2_3.alloc _).kept k4 (by omega)
  have z4 := f4.lies
  clear c4_B1_0 c4_B1_1 c4_B1_2 c4_B2_0 c4_B2_1 c4_B2_2 c4_B2_3 l4_B1 l4_B2 K3 B0_3 B1_3 B2_3 k4
  go_wp2_with fail
  refine wp_region_held_drew (S := fun w' => Arr w4.heap.size [.int .i64 t0, .int .i64 t1, .int .i64 t2] w' ∧ Arr (w.heap.size + 1) [.int .i64 v.1, .int .i64 v.2.1, .int .i64 v.2.2] w') (by kernel_rfl) ⟨(Arr_at _ _ [.int .i64 t0, .int .i64 t1, .int .i64 t2] _ (by simp)).drew, (B1_4.alloc _).drew⟩ (fun hHeld => ?_)
  refine take_at (i := 0) (v := ?v151) rfl (by kernel_rfl) (by kernel_rfl) (by kernel_rfl) (fun _ _ _ h => h) (Or.inl ⟨by rfl, ?y151⟩) hHeld ?t151
  case y151 => (intro wx hSw; go_simp <;> with_reducible rfl)
  simp only [Act.put, List.setIfInBounds_toArray, List.set_cons_zero, List.set_cons_succ]
  refine take_at (i := 1) (v := ?v152) rfl (by kernel_rfl) (by kernel_rfl) (by kernel_rfl) (fun _ _ _ h => h) (Or.inl ⟨by rfl, ?y152⟩) hHeld ?t152
  case y152 => (intro wx hSw; have hc0 : wx.cell? ⟨w4.heap.size, 0, none⟩ = some (.int .i64 t0) := hSw.1.c 0 (of_decide_eq_true rfl); have hc1 : wx.cell? ⟨w4.heap.size, 1, none⟩ = some (.int .i64 t1) := hSw.1.c 1 (of_decide_eq_true rfl); have hc2 : wx.cell? ⟨w4.heap.size, 2, none⟩ = some (.int .i64 t2) := hSw.1.c 2 (of_decide_eq_true rfl); go_simp <;> with_reducible rfl)
  simp only [Act.put, List.setIfInBounds_toArray, List.set_cons_zero, List.set_cons_succ]
  refine take_at (i := 3) (v := ?v153) rfl (by kernel_rfl) (by kernel_rfl) (by kernel_rfl) (fun _ _ _ h => h) (Or.inl ⟨by rfl, ?y153⟩) hHeld ?t153
  case y153 => (intro wx hSw; go_simp <;> with_reducible rfl)
  simp only [Act.put, List.setIfInBounds_toArray, List.set_cons_zero, List.set_cons_succ]
  refine take_at (i := 4) (v := ?v154) rfl (by kernel_rfl) (by kernel_rfl) (by kernel_rfl) (fun _ _ _ h => h) (Or.inl ⟨by rfl, ?y154⟩) hHeld ?t154
  case y154 => (intro wx hSw; have hc0 : wx.cell? ⟨w.heap.size + 1, 0, none⟩ = some (.int .i64 v.1) := hSw.2.c 0 (of_decide_eq_true rfl); have hc1 : wx.cell? ⟨w.heap.size + 1, 1, none⟩ = some (.int .i64 v.2.1) := hSw.2.c 1 (of_decide_eq_true rfl); have hc2 : wx.cell? ⟨w.heap.size + 1, 2, none⟩ = some (.int .i64 v.2.2) := hSw.2.c 2 (of_decide_eq_true rfl); go_simp <;> with_reducible rfl)
  simp only [Act.put, List.setIfInBounds_toArray, List.set_cons_zero, List.set_cons_succ]
  refine call_at (i := 2) (by kernel_rfl) rfl (fun K hK => ?_)
  go_simp
  refine (vNorm_any w3.heap.size false (t0, t1, t2) _ (f4.alloc _).drew).mono ?_
  rintro e w5 ⟨rfl, f5, k5⟩
  rw [hN] at f5 ⊢
  dsimp only at f5 ⊢
  have K5 : Below w.heap.size w w5 := k5.on (Below.drew (bel_al K4 _)) (by omega)
  have B0_5 : Arr w.heap.size [.int .i64 q.1, .int .i64 q.2.1, .int .i64 q.2.2.1, .int .i64 q.2.2.2] w5 := (B0_4.alloc _).drew.kept k5 (by omega)
  have B1_5 : Arr (w.heap.size + 1) [.int .i64 v.1, .int .i64 v.2.1, .int .i64 v.2.2] w5 := (B1_4.alloc _).drew.kept k5 (by omega)
  have B2_5 : Arr w2.heap.size [.int .i64 u0, .int .i64 u1, .int .i64 u2, .int .i64 u3] w5 := (B2_4.alloc _).drew.kept k5 (by omega)
  have B4_5 : Arr w4.heap.size [.int .i64 t0, .int .i64 t1, .int .i64 t2] w5 := (Arr_at _ _ [.int .i64 t0, .int .i64 t1, .int .i64 t2] _ (by simp)).drew.kept k5 (by omega)
  have z5 := B4_5.lies
  clear hHeld
  refine hK.out _ _ ⟨B4_5, B1_5⟩ (fun hHeld => ?_)
  clear hK K K4 B0_4 B1_4 B2_4 f4 k5
  refine call_at (i := 5) (by kernel_rfl) rfl (fun K hK => ?_)
  go_simp
  refine (vNorm_any w3.heap.size false v _ f5).mono ?_
  rintro e w6 ⟨rfl, f6, k6⟩
  rw [hM] at f6 ⊢
  dsimp only at f6 ⊢
  have K6 : Below w.heap.size w w6 := k6.on K5 (by omega)
  have B0_6 : Arr w.heap.size [.int .i64 q.1, .int .i64 q.2.1, .int .i64 q.2.2.1, .int .i64 q.2.2.2] w6 := B0_5.kept k6 (by omega)
  have B1_6 : Arr (w.heap.size + 1) [.int .i64 v.1, .int .i64 v.2.1, .int .i64 v.2.2] w6 := B1_5.kept k6 (by omega)
  have B2_6 : Arr w2.heap.size [.int .i64 u0, .int .i64 u1, .int .i64 u2, .int .i64 u3] w6 := B2_5.kept k6 (by omega)
  have B4_6 : Arr w4.heap.size [.int .i64 t0, .int .i64 t1, .int .i64 t2] w6 := B4_5.kept k6 (by omega)
  have z6 := B4_6.lies
  clear hHeld
  refine hK.out _ _ ⟨B4_6, B1_6⟩ (fun hHeld => ?_)
  clear hK K K5 B0_5 B1_5 B2_5 f5 B4_5 k6
  refine take_at (i := 6) (v := ?v155) rfl (by kernel_rfl) (by kernel_rfl) (by kernel_rfl) (fun _ _ _ h => h) (Or.inl ⟨by rfl, ?y155⟩) hHeld ?t155
  case y155 => (intro wx hSw; go_simp <;> with_reducible rfl)
  simp only [Act.put, List.setIfInBounds_toArray, List.set_cons_zero, List.set_cons_succ]
  rw [IntWalk.i64_in (N - J) (by omega)]
  refine take_at (i := 7) (v := ?v156) rfl (by kernel_rfl) (by kernel_rfl) (by kernel_rfl) (fun _ _ _ h => h) (Or.inl ⟨by rfl, ?y156⟩) hHeld ?t156
  case y156 => (intro wx hSw; go_simp <;> with_reducible rfl)
  simp only [Act.put, List.setIfInBounds_toArray, List.set_cons_zero, List.set_cons_succ]
  refine wpAnyH_done (by kernel_rfl) ?_ _
  clear hHeld
  go_wp2_with fail
  rename_i K0 aK0
  have cont1 : ∀ (W1 : World) (t1_11 t1_12 t1_13 t1_14 t1_15 t1_16 t1_17 t1_18 t1_19 t1_20 t1_21 t1_22 t1_23 t1_24 t1_25 t1_26 t1_27 t1_28 t1_29 t1_30 t1_31 t1_32 t1_33 t1_34 t1_35 t1_36 t1_37 t1_38 t1_39 t1_40 t1_41 t1_42 t1_43 : Value) (x1_0 : Nat) , Below w.heap.size w W1 → Arr w.heap.size [.int .i64 q.1, .int .i64 q.2.1, .int .i64 q.2.2.1, .int .i64 q.2.2.2] W1 → Arr (w.heap.size + 1) [.int .i64 v.1, .int .i64 v.2.1, .int .i64 v.2.2] W1 → Arr w2.heap.size [.int .i64 u0, .int .i64 u1, .int .i64 u2, .int .i64 u3] W1 → Fl w3.heap.size false W1 → Arr w4.heap.size [.int .i64 t0, .int .i64 t1, .int .i64 t2] W1 → Arr x1_0 [.int .i64 b0, .int .i64 b1, .int .i64 b2] W1 → w.heap.size ≤ x1_0 → w.heap.size < x1_0 → w.heap.size + 1 < x1_0 → w2.heap.size < x1_0 → w3.heap.size < x1_0 → w4.heap.size < x1_0 → K0 { tmps := #[.agg #[.int .i64 q.1, .int .i64 q.2.1, .int .i64 q.2.2.1, .int .i64 q.2.2.2], .agg #[.int .i64 v.1, .int .i64 v.2.1, .int .i64 v.2.2], .pointer (some ⟨w.heap.size, 0, none⟩), .pointer (some ⟨w.heap.size + 1, 0, none⟩), .bool false, .pointer (some ⟨w2.heap.size, 0, none⟩), .bool true, .pointer (some ⟨w3.heap.size, 0, none⟩), .pointer (some ⟨w4.heap.size, 0, none⟩), .int .i64 (N - J), .pointer (some ⟨x1_0, 0, none⟩), t1_11, t1_12, t1_13, t1_14, t1_15, t1_16, t1_17, t1_18, t1_19, t1_20, t1_21, t1_22, t1_23, t1_24, t1_25, t1_26, t1_27, t1_28, t1_29, t1_30, t1_31, t1_32, t1_33, t1_34, t1_35, t1_36, t1_37, t1_38, t1_39, t1_40, t1_41, t1_42, t1_43, undef, undef, undef, undef, undef, undef, undef, undef, undef, undef, undef, undef, undef, undef, undef, undef, undef, undef], defers := [] } W1 := by
    intro W1 t1_11 t1_12 t1_13 t1_14 t1_15 t1_16 t1_17 t1_18 t1_19 t1_20 t1_21 t1_22 t1_23 t1_24 t1_25 t1_26 t1_27 t1_28 t1_29 t1_30 t1_31 t1_32 t1_33 t1_34 t1_35 t1_36 t1_37 t1_38 t1_39 t1_40 t1_41 t1_42 t1_43 x1_0 KC1 B0_c1 B1_c1 B2_c1 B3_c1 B4_c1 B5_c1 s1_0 s1_1 s1_2 s1_3 s1_4 s1_5
    have zc1_B0 := B0_c1.lies
    have zc1_B1 := B1_c1.lies
    have zc1_B2 := B2_c1.lies
    have zc1_B3 := B3_c1.lies
    have zc1_B4 := B4_c1.lies
    have zc1_B5 := B5_c1.lies
    apply aK0
    have c7_B1_0 : W1.cell? ⟨w.heap.size + 1, 0, none⟩ = some (.int .i64 v.1) := B1_c1.c 0 (of_decide_eq_true rfl)
    have c7_B1_1 : W1.cell? ⟨w.heap.size + 1, 1, none⟩ = some (.int .i64 v.2.1) := B1_c1.c 1 (of_decide_eq_true rfl)
    have c7_B1_2 : W1.cell? ⟨w.heap.size + 1, 2, none⟩ = some (.int .i64 v.2.2) := B1_c1.c 2 (of_decide_eq_true rfl)
    have c7_B3 := B3_c1.cell
    have c7_B5_0 : W1.cell? ⟨x1_0, 0, none⟩ = some (.int .i64 b0) := B5_c1.c 0 (of_decide_eq_true rfl)
    have c7_B5_1 : W1.cell? ⟨x1_0, 1, none⟩ = some (.int .i64 b1) := B5_c1.c 1 (of_decide_eq_true rfl)
    have c7_B5_2 : W1.cell? ⟨x1_0, 2, none⟩ = some (.int .i64 b2) := B5_c1.c 2 (of_decide_eq_true rfl)
    go_wp2_with fail
    refine (near_any (b0, b1, b2) v 1024 _ (by first | omega | (dsimp only; omega)) (by first | omega | (dsimp only; omega)) (by first | omega | (dsimp only; omega)) (by omega)).mono ?_
    rintro e w9 ⟨rfl, k9⟩
    rw [hn]
    try dsimp only
    have K9 : Below w.heap.size w w9 := bel_then KC1 k9
    have B0_9 : Arr w.heap.size [.int .i64 q.1, .int .i64 q.2.1, .int .i64 q.2.2.1, .int .i64 q.2.2.2] w9 := B0_c1.below k9
    have B1_9 : Arr (w.heap.size + 1) [.int .i64 v.1, .int .i64 v.2.1, .int .i64 v.2.2] w9 := B1_c1.below k9
    have B2_9 : Arr w2.heap.size [.int .i64 u0, .int .i64 u1, .int .i64 u2, .int .i64 u3] w9 := B2_c1.below k9
    have B3_9 : Fl w3.heap.size false w9 := B3_c1.below k9
    have B4_9 : Arr w4.heap.size [.int .i64 t0, .int .i64 t1, .int .i64 t2] w9 := B4_c1.below k9
    have B5_9 : Arr x1_0 [.int .i64 b0, .int .i64 b1, .int .i64 b2] w9 := B5_c1.below k9
    have z9 := B5_9.lies
    clear c7_B1_0 c7_B1_1 c7_B1_2 c7_B3 c7_B5_0 c7_B5_1 c7_B5_2 B0_c1 B1_c1 B2_c1 B3_c1 B4_c1 B5_c1 k9
    go_wp2
    go_ret
    exact ⟨rfl, K9⟩
  refine wp_region_held_drew (S := fun w' => Arr w2.heap.size [.int .i64 u0, .int .i64 u1, .int .i64 u2, .int .i64 u3] w' ∧ Arr w4.heap.size [.int .i64 t0, .int .i64 t1, .int .i64 t2] w') (by kernel_rfl) ⟨B2_6.drew, B4_6.drew⟩ (fun hHeld => ?_)
  refine take_at (i := 0) (v := ?v157) rfl (by kernel_rfl) (by kernel_rfl) (by kernel_rfl) (fun _ _ _ h => h) (Or.inl ⟨by rfl, ?y157⟩) hHeld ?t157
  case y157 => (intro wx hSw; go_simp <;> with_reducible rfl)
  simp only [Act.put, List.setIfInBounds_toArray, List.set_cons_zero, List.set_cons_succ]
  refine take_at (i := 1) (v := ?v158) rfl (by kernel_rfl) (by kernel_rfl) (by kernel_rfl) (fun _ _ _ h => h) (Or.inl ⟨by rfl, ?y158⟩) hHeld ?t158
  case y158 => (intro wx hSw; have hc0 : wx.cell? ⟨w2.heap.size, 0, none⟩ = some (.int .i64 u0) := hSw.1.c 0 (of_decide_eq_true rfl); have hc1 : wx.cell? ⟨w2.heap.size, 1, none⟩ = some (.int .i64 u1) := hSw.1.c 1 (of_decide_eq_true rfl); have hc2 : wx.cell? ⟨w2.heap.size, 2, none⟩ = some (.int .i64 u2) := hSw.1.c 2 (of_decide_eq_true rfl); have hc3 : wx.cell? ⟨w2.heap.size, 3, none⟩ = some (.int .i64 u3) := hSw.1.c 3 (of_decide_eq_true rfl); go_simp <;> with_reducible rfl)
  simp only [Act.put, List.setIfInBounds_toArray, List.set_cons_zero, List.set_cons_succ]
  refine take_at (i := 3) (v := ?v159) rfl (by kernel_rfl) (by kernel_rfl) (by kernel_rfl) (fun _ _ _ h => h) (Or.inl ⟨by rfl, ?y159⟩) hHeld ?t159
  case y159 => (intro wx hSw; have hc0 : wx.cell? ⟨w4.heap.size, 0, none⟩ = some (.int .i64 t0) := hSw.2.c 0 (of_decide_eq_true rfl); have hc1 : wx.cell? ⟨w4.heap.size, 1, none⟩ = some (.int .i64 t1) := hSw.2.c 1 (of_decide_eq_true rfl); have hc2 : wx.cell? ⟨w4.heap.size, 2, none⟩ = some (.int .i64 t2) := hSw.2.c 2 (of_decide_eq_true rfl); go_simp <;> with_reducible rfl)
  simp only [Act.put, List.setIfInBounds_toArray, List.set_cons_zero, List.set_cons_succ]
  refine call_at2 (i0 := 2) (i1 := 5) (by kernel_rfl) rfl rfl (fun K hK => ?_) (fun K hK => ?_)
  · go_simp
    refine (qBack_any (u0, u1, u2, u3) _).mono ?_
    rintro e w7 ⟨rfl, k7⟩
    rw [hb]
    try dsimp only
    have K7 : Below w.heap.size w w7 := bel_then (Below.drew K6) k7
    have B0_7 : Arr w.heap.size [.int .i64 q.1, .int .i64 q.2.1, .int .i64 q.2.2.1, .int .i64 q.2.2.2] w7 := B0_6.drew.below k7
    have B1_7 : Arr (w.heap.size + 1) [.int .i64 v.1, .int .i64 v.2.1, .int .i64 v.2.2] w7 := B1_6.drew.below k7
    have B2_7 : Arr w2.heap.size [.int .i64 u0, .int .i64 u1, .int .i64 u2, .int .i64 u3] w7 := B2_6.drew.below k7
    have B3_7 : Fl w3.heap.size false w7 := f6.drew.below k7
    have B4_7 : Arr w4.heap.size [.int .i64 t0, .int .i64 t1, .int .i64 t2] w7 := B4_6.drew.below k7
    have z7 := B4_7.lies
    clear hHeld
    refine hK.out _ _ ⟨B2_7, B4_7⟩ (fun hHeld => ?_)
    clear hK K K6 B0_6 B1_6 B2_6 f6 B4_6 k7
    refine call_at2 (i0 := 4) (i1 := 5) (by kernel_rfl) rfl rfl (fun K hK => ?_) (fun K hK => ?_)
    · go_simp
      refine (qTurn_any w3.heap.size false ((-u0), (-u1), (-u2), u3) (t0, t1, t2) _ B3_7).mono ?_
      rintro e w8 ⟨rfl, f8, k8⟩
      rw [hr] at f8 ⊢
      dsimp only at f8 ⊢
      have K8 : Below w.heap.size w w8 := k8.on K7 (by omega)
      have B0_8 : Arr w.heap.size [.int .i64 q.1, .int .i64 q.2.1, .int .i64 q.2.2.1, .int .i64 q.2.2.2] w8 := B0_7.kept k8 (by omega)
      have B1_8 : Arr (w.heap.size + 1) [.int .i64 v.1, .int .i64 v.2.1, .int .i64 v.2.2] w8 := B1_7.kept k8 (by omega)
      have B2_8 : Arr w2.heap.size [.int .i64 u0, .int .i64 u1, .int .i64 u2, .int .i64 u3] w8 := B2_7.kept k8 (by omega)
      have B4_8 : Arr w4.heap.size [.int .i64 t0, .int .i64 t1, .int .i64 t2] w8 := B4_7.kept k8 (by omega)
      have z8 := B4_8.lies
      clear hHeld
      refine hK.out _ _ ⟨B2_8, B4_8⟩ (fun hHeld => ?_)
      clear hK K K7 B0_7 B1_7 B2_7 B3_7 B4_7 k8
      refine call_at (i := 5) (by kernel_rfl) rfl (fun K hK => ?_)
      go_simp
      clear hHeld
      refine hK.out _ _ ⟨(B2_8.alloc _), (B4_8.alloc _)⟩ (fun hHeld => ?_)
      clear hK K
      refine call_at (i := 6) (by kernel_rfl) rfl (fun K hK => ?_)
      go_simp
      clear hHeld
      refine hK.out _ _ ⟨(B2_8.alloc _), (B4_8.alloc _)⟩ (fun hHeld => ?_)
      clear hK K
      refine wpAnyH_done (by kernel_rfl) ?_ _
      clear hHeld
      exact cont1 _ _ _ _ _ _ _ _ _ _ _ _ _ _ _ _ _ _ _ _ _ _ _ _ _ _ _ _ _ _ _ _ _ _ w8.heap.size (bel_al K8 _) (B0_8.alloc _) (B1_8.alloc _) (B2_8.alloc _) (f8.alloc _) (B4_8.alloc _) (Arr_at _ _ [.int .i64 b0, .int .i64 b1, .int .i64 b2] _ (by simp)) (by omega) (by omega) (by omega) (by omega) (by omega) (by omega)
    · go_simp
      clear hHeld
      refine hK.out _ _ ⟨(B2_7.alloc _), (B4_7.alloc _)⟩ (fun hHeld => ?_)
      clear hK K
      refine call_at (i := 4) (by kernel_rfl) rfl (fun K hK => ?_)
      go_simp
      refine (qTurn_any w3.heap.size false ((-u0), (-u1), (-u2), u3) (t0, t1, t2) _ (B3_7.alloc _)).mono ?_
      rintro e w8 ⟨rfl, f8, k8⟩
      rw [hr] at f8 ⊢
      dsimp only at f8 ⊢
      have K8 : Below w.heap.size w w8 := k8.on (bel_al K7 _) (by omega)
      have B0_8 : Arr w.heap.size [.int .i64 q.1, .int .i64 q.2.1, .int .i64 q.2.2.1, .int .i64 q.2.2.2] w8 := (B0_7.alloc _).kept k8 (by omega)
      have B1_8 : Arr (w.heap.size + 1) [.int .i64 v.1, .int .i64 v.2.1, .int .i64 v.2.2] w8 := (B1_7.alloc _).kept k8 (by omega)
      have B2_8 : Arr w2.heap.size [.int .i64 u0, .int .i64 u1, .int .i64 u2, .int .i64 u3] w8 := (B2_7.alloc _).kept k8 (by omega)
      have B4_8 : Arr w4.heap.size [.int .i64 t0, .int .i64 t1, .int .i64 t2] w8 := (B4_7.alloc _).kept k8 (by omega)
      have B5_8 : Arr w7.heap.size [.int .i64 0, .int .i64 0, .int .i64 0] w8 := (Arr_at _ _ [.int .i64 0, .int .i64 0, .int .i64 0] _ (by simp)).kept k8 (by omega)
      have z8 := B5_8.lies
      clear hHeld
      refine hK.out _ _ ⟨B2_8, B4_8⟩ (fun hHeld => ?_)
      clear hK K K7 B0_7 B1_7 B2_7 B3_7 B4_7 k8
      refine call_at (i := 6) (by kernel_rfl) rfl (fun K hK => ?_)
      have c8_B5_0 : w8.cell? ⟨w7.heap.size, 0, none⟩ = some (.int .i64 0) := B5_8.c 0 (of_decide_eq_true rfl)
      have c8_B5_1 : w8.cell? ⟨w7.heap.size, 1, none⟩ = some (.int .i64 0) := B5_8.c 1 (of_decide_eq_true rfl)
      have c8_B5_2 : w8.cell? ⟨w7.heap.size, 2, none⟩ = some (.int .i64 0) := B5_8.c 2 (of_decide_eq_true rfl)
      have g8_B5_0 := B5_8.f 0 (of_decide_eq_true rfl)
      have g8_B5_1 := B5_8.f 1 (of_decide_eq_true rfl)
      have g8_B5_2 := B5_8.f 2 (of_decide_eq_true rfl)
      go_simp
      clear hHeld
      refine hK.out _ _ ⟨(((B2_8.new w7.heap.size 0 (by omega) (.int .i64 b0)).new w7.heap.size 1 (by omega) (.int .i64 b1)).new w7.heap.size 2 (by omega) (.int .i64 b2)), (((B4_8.new w7.heap.size 0 (by omega) (.int .i64 b0)).new w7.heap.size 1 (by omega) (.int .i64 b1)).new w7.heap.size 2 (by omega) (.int .i64 b2))⟩ (fun hHeld => ?_)
      clear hK K c8_B5_0 c8_B5_1 c8_B5_2 g8_B5_0 g8_B5_1 g8_B5_2
      refine wpAnyH_done (by kernel_rfl) ?_ _
      clear hHeld
      exact cont1 _ _ _ _ _ _ _ _ _ _ _ _ _ _ _ _ _ _ _ _ _ _ _ _ _ _ _ _ _ _ _ _ _ _ w7.heap.size (bel_new (bel_new (bel_new K8 _ _ (by omega) _) _ _ (by omega) _) _ _ (by omega) _) (((B0_8.new w7.heap.size 0 (by omega) (.int .i64 b0)).new w7.heap.size 1 (by omega) (.int .i64 b1)).new w7.heap.size 2 (by omega) (.int .i64 b2)) (((B1_8.new w7.heap.size 0 (by omega) (.int .i64 b0)).new w7.heap.size 1 (by omega) (.int .i64 b1)).new w7.heap.size 2 (by omega) (.int .i64 b2)) (((B2_8.new w7.heap.size 0 (by omega) (.int .i64 b0)).new w7.heap.size 1 (by omega) (.int .i64 b1)).new w7.heap.size 2 (by omega) (.int .i64 b2)) (((f8.new w7.heap.size 0 (by omega) (.int .i64 b0)).new w7.heap.size 1 (by omega) (.int .i64 b1)).new w7.heap.size 2 (by omega) (.int .i64 b2)) (((B4_8.new w7.heap.size 0 (by omega) (.int .i64 b0)).new w7.heap.size 1 (by omega) (.int .i64 b1)).new w7.heap.size 2 (by omega) (.int .i64 b2)) (((B5_8.put 0 (of_decide_eq_true rfl) (.int .i64 b0) [.int .i64 b0, .int .i64 0, .int .i64 0] rfl).put 1 (of_decide_eq_true rfl) (.int .i64 b1) [.int .i64 b0, .int .i64 b1, .int .i64 0] rfl).put 2 (of_decide_eq_true rfl) (.int .i64 b2) [.int .i64 b0, .int .i64 b1, .int .i64 b2] rfl) (by omega) (by omega) (by omega) (by omega) (by omega) (by omega)
  · go_simp
    clear hHeld
    refine hK.out _ _ ⟨(B2_6.alloc _).drew, (B4_6.alloc _).drew⟩ (fun hHeld => ?_)
    clear hK K
    refine call_at (i := 2) (by kernel_rfl) rfl (fun K hK => ?_)
    go_simp
    refine (qBack_any (u0, u1, u2, u3) _).mono ?_
    rintro e w7 ⟨rfl, k7⟩
    rw [hb]
    try dsimp only
    have K7 : Below w.heap.size w w7 := bel_then (Below.drew (bel_al K6 _)) k7
    have B0_7 : Arr w.heap.size [.int .i64 q.1, .int .i64 q.2.1, .int .i64 q.2.2.1, .int .i64 q.2.2.2] w7 := (B0_6.alloc _).drew.below k7
    have B1_7 : Arr (w.heap.size + 1) [.int .i64 v.1, .int .i64 v.2.1, .int .i64 v.2.2] w7 := (B1_6.alloc _).drew.below k7
    have B2_7 : Arr w2.heap.size [.int .i64 u0, .int .i64 u1, .int .i64 u2, .int .i64 u3] w7 := (B2_6.alloc _).drew.below k7
    have B3_7 : Fl w3.heap.size false w7 := (f6.alloc _).drew.below k7
    have B4_7 : Arr w4.heap.size [.int .i64 t0, .int .i64 t1, .int .i64 t2] w7 := (B4_6.alloc _).drew.below k7
    have B5_7 : Arr w6.heap.size [.int .i64 0, .int .i64 0, .int .i64 0] w7 := (Arr_at _ _ [.int .i64 0, .int .i64 0, .int .i64 0] _ (by simp)).drew.below k7
    have z7 := B5_7.lies
    clear hHeld
    refine hK.out _ _ ⟨B2_7, B4_7⟩ (fun hHeld => ?_)
    clear hK K K6 B0_6 B1_6 B2_6 f6 B4_6 k7
    refine call_at (i := 4) (by kernel_rfl) rfl (fun K hK => ?_)
    go_simp
    refine (qTurn_any w3.heap.size false ((-u0), (-u1), (-u2), u3) (t0, t1, t2) _ B3_7).mono ?_
    rintro e w8 ⟨rfl, f8, k8⟩
    rw [hr] at f8 ⊢
    dsimp only at f8 ⊢
    have K8 : Below w.heap.size w w8 := k8.on K7 (by omega)
    have B0_8 : Arr w.heap.size [.int .i64 q.1, .int .i64 q.2.1, .int .i64 q.2.2.1, .int .i64 q.2.2.2] w8 := B0_7.kept k8 (by omega)
    have B1_8 : Arr (w.heap.size + 1) [.int .i64 v.1, .int .i64 v.2.1, .int .i64 v.2.2] w8 := B1_7.kept k8 (by omega)
    have B2_8 : Arr w2.heap.size [.int .i64 u0, .int .i64 u1, .int .i64 u2, .int .i64 u3] w8 := B2_7.kept k8 (by omega)
    have B4_8 : Arr w4.heap.size [.int .i64 t0, .int .i64 t1, .int .i64 t2] w8 := B4_7.kept k8 (by omega)
    have B5_8 : Arr w6.heap.size [.int .i64 0, .int .i64 0, .int .i64 0] w8 := B5_7.kept k8 (by omega)
    have z8 := B5_8.lies
    clear hHeld
    refine hK.out _ _ ⟨B2_8, B4_8⟩ (fun hHeld => ?_)
    clear hK K K7 B0_7 B1_7 B2_7 B3_7 B4_7 B5_7 k8
    refine call_at (i := 6) (by kernel_rfl) rfl (fun K hK => ?_)
    have c8_B5_0 : w8.cell? ⟨w6.heap.size, 0, none⟩ = some (.int .i64 0) := B5_8.c 0 (of_decide_eq_true rfl)
    have c8_B5_1 : w8.cell? ⟨w6.heap.size, 1, none⟩ = some (.int .i64 0) := B5_8.c 1 (of_decide_eq_true rfl)
    have c8_B5_2 : w8.cell? ⟨w6.heap.size, 2, none⟩ = some (.int .i64 0) := B5_8.c 2 (of_decide_eq_true rfl)
    have g8_B5_0 := B5_8.f 0 (of_decide_eq_true rfl)
    have g8_B5_1 := B5_8.f 1 (of_decide_eq_true rfl)
    have g8_B5_2 := B5_8.f 2 (of_decide_eq_true rfl)
    go_simp
    clear hHeld
    refine hK.out _ _ ⟨(((B2_8.new w6.heap.size 0 (by omega) (.int .i64 b0)).new w6.heap.size 1 (by omega) (.int .i64 b1)).new w6.heap.size 2 (by omega) (.int .i64 b2)), (((B4_8.new w6.heap.size 0 (by omega) (.int .i64 b0)).new w6.heap.size 1 (by omega) (.int .i64 b1)).new w6.heap.size 2 (by omega) (.int .i64 b2))⟩ (fun hHeld => ?_)
    clear hK K c8_B5_0 c8_B5_1 c8_B5_2 g8_B5_0 g8_B5_1 g8_B5_2
    refine wpAnyH_done (by kernel_rfl) ?_ _
    clear hHeld
    exact cont1 _ _ _ _ _ _ _ _ _ _ _ _ _ _ _ _ _ _ _ _ _ _ _ _ _ _ _ _ _ _ _ _ _ _ w6.heap.size (bel_new (bel_new (bel_new K8 _ _ (by omega) _) _ _ (by omega) _) _ _ (by omega) _) (((B0_8.new w6.heap.size 0 (by omega) (.int .i64 b0)).new w6.heap.size 1 (by omega) (.int .i64 b1)).new w6.heap.size 2 (by omega) (.int .i64 b2)) (((B1_8.new w6.heap.size 0 (by omega) (.int .i64 b0)).new w6.heap.size 1 (by omega) (.int .i64 b1)).new w6.heap.size 2 (by omega) (.int .i64 b2)) (((B2_8.new w6.heap.size 0 (by omega) (.int .i64 b0)).new w6.heap.size 1 (by omega) (.int .i64 b1)).new w6.heap.size 2 (by omega) (.int .i64 b2)) (((f8.new w6.heap.size 0 (by omega) (.int .i64 b0)).new w6.heap.size 1 (by omega) (.int .i64 b1)).new w6.heap.size 2 (by omega) (.int .i64 b2)) (((B4_8.new w6.heap.size 0 (by omega) (.int .i64 b0)).new w6.heap.size 1 (by omega) (.int .i64 b1)).new w6.heap.size 2 (by omega) (.int .i64 b2)) (((B5_8.put 0 (of_decide_eq_true rfl) (.int .i64 b0) [.int .i64 b0, .int .i64 0, .int .i64 0] rfl).put 1 (of_decide_eq_true rfl) (.int .i64 b1) [.int .i64 b0, .int .i64 b1, .int .i64 0] rfl).put 2 (of_decide_eq_true rfl) (.int .i64 b2) [.int .i64 b0, .int .i64 b1, .int .i64 b2] rfl) (by omega) (by omega) (by omega) (by omega) (by omega) (by omega)
theorem QuatKeeps_any (q : V4) (v : V3) (w : World) (v0 : -9223372036854775808 ≤ v.1 ∧ v.1 ≤ 9223372036854775807) (v1 : -9223372036854775808 ≤ v.2.1 ∧ v.2.1 ≤ 9223372036854775807) (v2 : -9223372036854775808 ≤ v.2.2 ∧ v.2.2 ≤ 9223372036854775807) :
    Calls Try.prog 7 #[.agg #[.int .i64 q.1, .int .i64 q.2.1, .int .i64 q.2.2.1, .int .i64 q.2.2.2], .agg #[.int .i64 v.1, .int .i64 v.2.1, .int .i64 v.2.2]] w fun e w' => e = .returned (.bool true) ∧ Below w.heap.size w w' := by
  rcases unit_math q with h | ⟨u0, u1, u2, u3, h, U⟩
  · exact QuatKeeps_q q v w h
  · cases hv : nearS v (0, 0, 0) 1099511627776
    · exact QuatKeeps_v q v w u0 u1 u2 u3 h v0 v1 v2 hv
    · have g := near_get hv
      have a0 : Ab v.1 1099511627776 := ⟨by have := g.1.lo; simpa using this, by have := g.1.hi; simpa using this⟩
      have a1 : Ab v.2.1 1099511627776 := ⟨by have := g.2.1.lo; simpa using this, by have := g.2.1.hi; simpa using this⟩
      have a2 : Ab v.2.2 1099511627776 := ⟨by have := g.2.2.lo; simpa using this, by have := g.2.2.hi; simpa using this⟩
      obtain ⟨t0, t1, t2, N, K, b0, b1, b2, e1, e2, e3, e4, e5, d, m0, m1, m2⟩ := keeps_math U a0 a1 a2
      exact QuatKeeps_good q v w t0 t1 t2 N K b0 b1 b2 u0 u1 u2 u3 h v0 v1 v2 hv e1 e2 e3 e4 e5 d.lo d.hi ⟨m0.lo, m0.hi⟩ ⟨m1.lo, m1.hi⟩ ⟨m2.lo, m2.hi⟩ (near_yes m0 m1 m2)
end Go.Proofs.Yteooceapkkdcpaa
