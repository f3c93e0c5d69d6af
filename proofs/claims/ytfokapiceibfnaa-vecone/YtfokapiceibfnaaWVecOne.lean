/-
  The walk of the law VecOne, for the seat Ytfokapiceibfnaa. (Made by mklaw03.py.)
-/
import Derived.Test.YtfokapiceibfnaaVAwake
import Derived.Test.YtfokapiceibfnaaVOne
import Derived.Handy
import Derived.Deep.RegionHeld3
namespace Go.Proofs.Ytfokapiceibfnaa
open Go.RowKit

set_option maxRecDepth 100000 in
set_option maxHeartbeats 4000000 in
theorem VecOne_bad (p : V3) (w : World) (n : Int) (hn : vNormS false p = (n, true)) :
    Calls Try.prog 8 #[.agg #[.int .i64 p.1, .int .i64 p.2.1, .int .i64 p.2.2]] w fun e w' => e = .returned (.bool true) ∧ Below w.heap.size w w' := by
  go_enter Try.func8, Try.ntmps8
  go_wp2_with fail
  refine (awake_any  _).mono ?_
  rintro e w1 ⟨rfl, k1⟩
  have K1 : Below w.heap.size w w1 := bel_then (bel_al (Below.refl w.heap.size w) _) k1
  have B0_1 : Arr w.heap.size [.int .i64 p.1, .int .i64 p.2.1, .int .i64 p.2.2] w1 := (Arr_at _ _ [.int .i64 p.1, .int .i64 p.2.1, .int .i64 p.2.2] _ (by simp)).below k1
  have z1 := B0_1.lies
  clear k1
  have c2_B0_0 : w1.cell? ⟨w.heap.size, 0, none⟩ = some (.int .i64 p.1) := B0_1.c 0 (of_decide_eq_true rfl)
  have c2_B0_1 : w1.cell? ⟨w.heap.size, 1, none⟩ = some (.int .i64 p.2.1) := B0_1.c 1 (of_decide_eq_true rfl)
  have c2_B0_2 : w1.cell? ⟨w.heap.size, 2, none⟩ = some (.int .i64 p.2.2) := B0_1.c 2 (of_decide_eq_true rfl)
  have l2_B0 := B0_1.lies
  go_wp2_with fail
  refine (vNorm_any w1.heap.size false p _ (Fl_at _ _ _ _ (by simp))).mono ?_
  rintro e w2 ⟨rfl, f2, k2⟩
  rw [hn] at f2 ⊢
  dsimp only at f2 ⊢
  have K2 : Below w.heap.size w w2 := k2.on (bel_al K1 _) (by omega)
  have B0_2 : Arr w.heap.size [.int .i64 p.1, .int .i64 p.2.1, .int .i64 p.2.2] w2 := (B0_1.alloc _).kept k2 (by omega)
  have z2 := f2.lies
  clear c2_B0_0 c2_B0_1 c2_B0_2 l2_B0 K1 B0_1 k2
  have c3_B1 := f2.cell
  go_wp2
  clear c3_B1
  go_ret
  exact ⟨rfl, K2⟩
set_option maxRecDepth 100000 in
set_option maxHeartbeats 4000000 in
theorem VecOne_small (p : V3) (w : World) (n : Int) (hn : vNormS false p = (n, false)) (hc : n < 1048576) :
    Calls Try.prog 8 #[.agg #[.int .i64 p.1, .int .i64 p.2.1, .int .i64 p.2.2]] w fun e w' => e = .returned (.bool true) ∧ Below w.heap.size w w' := by
  go_enter Try.func8, Try.ntmps8
  go_wp2_with fail
  refine (awake_any  _).mono ?_
  rintro e w1 ⟨rfl, k1⟩
  have K1 : Below w.heap.size w w1 := bel_then (bel_al (Below.refl w.heap.size w) _) k1
  have B0_1 : Arr w.heap.size [.int .i64 p.1, .int .i64 p.2.1, .int .i64 p.2.2] w1 := (Arr_at _ _ [.int .i64 p.1, .int .i64 p.2.1, .int .i64 p.2.2] _ (by simp)).below k1
  have z1 := B0_1.lies
  clear k1
  have c2_B0_0 : w1.cell? ⟨w.heap.size, 0, none⟩ = some (.int .i64 p.1) := B0_1.c 0 (of_decide_eq_true rfl)
  have c2_B0_1 : w1.cell? ⟨w.heap.size, 1, none⟩ = some (.int .i64 p.2.1) := B0_1.c 1 (of_decide_eq_true rfl)
  have c2_B0_2 : w1.cell? ⟨w.heap.size, 2, none⟩ = some (.int .i64 p.2.2) := B0_1.c 2 (of_decide_eq_true rfl)
  have l2_B0 := B0_1.lies
  go_wp2_with fail
  refine (vNorm_any w1.heap.size false p _ (Fl_at _ _ _ _ (by simp))).mono ?_
  rintro e w2 ⟨rfl, f2, k2⟩
  rw [hn] at f2 ⊢
  dsimp only at f2 ⊢
  have K2 : Below w.heap.size w w2 := k2.on (bel_al K1 _) (by omega)
  have B0_2 : Arr w.heap.size [.int .i64 p.1, .int .i64 p.2.1, .int .i64 p.2.2] w2 := (B0_1.alloc _).kept k2 (by omega)
  have z2 := f2.lies
  clear c2_B0_0 c2_B0_1 c2_B0_2 l2_B0 K1 B0_1 k2
  have c3_B1 := f2.cell
  go_wp2
  clear c3_B1
  go_ret
  exact ⟨rfl, K2⟩
set_option maxRecDepth 100000 in
set_option maxHeartbeats 4000000 in
theorem VecOne_long (p : V3) (w : World) (n u0 u1 u2 N : Int) (hn : vNormS false p = (n, false)) (hu : vUnitS false p = ((u0, u1, u2), false)) (hN : vNormS false (u0, u1, u2) = (N, false)) (hl : 1099511627776 ≤ n) (b1 : -8 ≤ N - 1099511627776) (b2 : N - 1099511627776 ≤ 8) :
    Calls Try.prog 8 #[.agg #[.int .i64 p.1, .int .i64 p.2.1, .int .i64 p.2.2]] w fun e w' => e = .returned (.bool true) ∧ Below w.heap.size w w' := by
  go_enter Try.func8, Try.ntmps8
  go_wp2_with fail
  refine (awake_any  _).mono ?_
  rintro e w1 ⟨rfl, k1⟩
  have K1 : Below w.heap.size w w1 := bel_then (bel_al (Below.refl w.heap.size w) _) k1
  have B0_1 : Arr w.heap.size [.int .i64 p.1, .int .i64 p.2.1, .int .i64 p.2.2] w1 := (Arr_at _ _ [.int .i64 p.1, .int .i64 p.2.1, .int .i64 p.2.2] _ (by simp)).below k1
  have z1 := B0_1.lies
  clear k1
  have c2_B0_0 : w1.cell? ⟨w.heap.size, 0, none⟩ = some (.int .i64 p.1) := B0_1.c 0 (of_decide_eq_true rfl)
  have c2_B0_1 : w1.cell? ⟨w.heap.size, 1, none⟩ = some (.int .i64 p.2.1) := B0_1.c 1 (of_decide_eq_true rfl)
  have c2_B0_2 : w1.cell? ⟨w.heap.size, 2, none⟩ = some (.int .i64 p.2.2) := B0_1.c 2 (of_decide_eq_true rfl)
  have l2_B0 := B0_1.lies
  go_wp2_with fail
  refine (vNorm_any w1.heap.size false p _ (Fl_at _ _ _ _ (by simp))).mono ?_
  rintro e w2 ⟨rfl, f2, k2⟩
  rw [hn] at f2 ⊢
  dsimp only at f2 ⊢
  have K2 : Below w.heap.size w w2 := k2.on (bel_al K1 _) (by omega)
  have B0_2 : Arr w.heap.size [.int .i64 p.1, .int .i64 p.2.1, .int .i64 p.2.2] w2 := (B0_1.alloc _).kept k2 (by omega)
  have z2 := f2.lies
  clear c2_B0_0 c2_B0_1 c2_B0_2 l2_B0 K1 B0_1 k2
  have c3_B0_0 : w2.cell? ⟨w.heap.size, 0, none⟩ = some (.int .i64 p.1) := B0_2.c 0 (of_decide_eq_true rfl)
  have c3_B0_1 : w2.cell? ⟨w.heap.size, 1, none⟩ = some (.int .i64 p.2.1) := B0_2.c 1 (of_decide_eq_true rfl)
  have c3_B0_2 : w2.cell? ⟨w.heap.size, 2, none⟩ = some (.int .i64 p.2.2) := B0_2.c 2 (of_decide_eq_true rfl)
  have c3_B1 := f2.cell
  go_wp2_with fail
  refine (vUnit_any w1.heap.size false p _ f2).mono ?_
  rintro e w3 ⟨rfl, f3, k3⟩
  rw [hu] at f3 ⊢
  dsimp only at f3 ⊢
  have K3 : Below w.heap.size w w3 := k3.on K2 (by omega)
  have B0_3 : Arr w.heap.size [.int .i64 p.1, .int .i64 p.2.1, .int .i64 p.2.2] w3 := B0_2.kept k3 (by omega)
  have z3 := f3.lies
  clear c3_B0_0 c3_B0_1 c3_B0_2 c3_B1 K2 B0_2 f2 k3
  go_wp2_with fail
  refine (vNorm_any w1.heap.size false (u0, u1, u2) _ (f3.alloc _)).mono ?_
  rintro e w4 ⟨rfl, f4, k4⟩
  rw [hN] at f4 ⊢
  dsimp only at f4 ⊢
  have K4 : Below w.heap.size w w4 := k4.on (bel_al K3 _) (by omega)
  have B0_4 : Arr w.heap.size [.int .i64 p.1, .int .i64 p.2.1, .int .i64 p.2.2] w4 := (B0_3.alloc _).kept k4 (by omega)
  have B2_4 : Arr w3.heap.size [.int .i64 u0, .int .i64 u1, .int .i64 u2] w4 := (Arr_at _ _ [.int .i64 u0, .int .i64 u1, .int .i64 u2] _ (by simp)).kept k4 (by omega)
  have z4 := B2_4.lies
  clear K3 B0_3 f3 k4
  have c5_B1 := f4.cell
  go_wp2
  clear c5_B1
  go_ret
  exact ⟨rfl, K4⟩
set_option maxRecDepth 100000 in
set_option maxHeartbeats 4000000 in
theorem VecOne_mid (p : V3) (w : World) (n u0 u1 u2 N : Int) (hn : vNormS false p = (n, false)) (hc : 1048576 ≤ n) (hu : vUnitS false p = ((u0, u1, u2), false)) (hN : vNormS false (u0, u1, u2) = (N, false)) (hl : n < 1099511627776) (b1 : -4194304 ≤ N - 1099511627776) (b2 : N - 1099511627776 ≤ 4194304) :
    Calls Try.prog 8 #[.agg #[.int .i64 p.1, .int .i64 p.2.1, .int .i64 p.2.2]] w fun e w' => e = .returned (.bool true) ∧ Below w.heap.size w w' := by
  go_enter Try.func8, Try.ntmps8
  go_wp2_with fail
  refine (awake_any  _).mono ?_
  rintro e w1 ⟨rfl, k1⟩
  have K1 : Below w.heap.size w w1 := bel_then (bel_al (Below.refl w.heap.size w) _) k1
  have B0_1 : Arr w.heap.size [.int .i64 p.1, .int .i64 p.2.1, .int .i64 p.2.2] w1 := (Arr_at _ _ [.int .i64 p.1, .int .i64 p.2.1, .int .i64 p.2.2] _ (by simp)).below k1
  have z1 := B0_1.lies
  clear k1
  have c2_B0_0 : w1.cell? ⟨w.heap.size, 0, none⟩ = some (.int .i64 p.1) := B0_1.c 0 (of_decide_eq_true rfl)
  have c2_B0_1 : w1.cell? ⟨w.heap.size, 1, none⟩ = some (.int .i64 p.2.1) := B0_1.c 1 (of_decide_eq_true rfl)
  have c2_B0_2 : w1.cell? ⟨w.heap.size, 2, none⟩ = some (.int .i64 p.2.2) := B0_1.c 2 (of_decide_eq_true rfl)
  have l2_B0 := B0_1.lies
  go_wp2_with fail
  refine (vNorm_any w1.heap.size false p _ (Fl_at _ _ _ _ (by simp))).mono ?_
  rintro e w2 ⟨rfl, f2, k2⟩
  rw [hn] at f2 ⊢
  dsimp only at f2 ⊢
  have K2 : Below w.heap.size w w2 := k2.on (bel_al K1 _) (by omega)
  have B0_2 : Arr w.heap.size [.int .i64 p.1, .int .i64 p.2.1, .int .i64 p.2.2] w2 := (B0_1.alloc _).kept k2 (by omega)
  have z2 := f2.lies
  clear c2_B0_0 c2_B0_1 c2_B0_2 l2_B0 K1 B0_1 k2
  have c3_B0_0 : w2.cell? ⟨w.heap.size, 0, none⟩ = some (.int .i64 p.1) := B0_2.c 0 (of_decide_eq_true rfl)
  have c3_B0_1 : w2.cell? ⟨w.heap.size, 1, none⟩ = some (.int .i64 p.2.1) := B0_2.c 1 (of_decide_eq_true rfl)
  have c3_B0_2 : w2.cell? ⟨w.heap.size, 2, none⟩ = some (.int .i64 p.2.2) := B0_2.c 2 (of_decide_eq_true rfl)
  have c3_B1 := f2.cell
  go_wp2_with fail
  refine (vUnit_any w1.heap.size false p _ f2).mono ?_
  rintro e w3 ⟨rfl, f3, k3⟩
  rw [hu] at f3 ⊢
  dsimp only at f3 ⊢
  have K3 : Below w.heap.size w w3 := k3.on K2 (by omega)
  have B0_3 : Arr w.heap.size [.int .i64 p.1, .int .i64 p.2.1, .int .i64 p.2.2] w3 := B0_2.kept k3 (by omega)
  have z3 := f3.lies
  clear c3_B0_0 c3_B0_1 c3_B0_2 c3_B1 K2 B0_2 f2 k3
  go_wp2_with fail
  refine (vNorm_any w1.heap.size false (u0, u1, u2) _ (f3.alloc _)).mono ?_
  rintro e w4 ⟨rfl, f4, k4⟩
  rw [hN] at f4 ⊢
  dsimp only at f4 ⊢
  have K4 : Below w.heap.size w w4 := k4.on (bel_al K3 _) (by omega)
  have B0_4 : Arr w.heap.size [.int .i64 p.1, .int .i64 p.2.1, .int .i64 p.2.2] w4 := (B0_3.alloc _).kept k4 (by omega)
  have B2_4 : Arr w3.heap.size [.int .i64 u0, .int .i64 u1, .int .i64 u2] w4 := (Arr_at _ _ [.int .i64 u0, .int .i64 u1, .int .i64 u2] _ (by simp)).kept k4 (by omega)
  have z4 := B2_4.lies
  clear K3 B0_3 f3 k4
  have c5_B1 := f4.cell
  go_wp2
  clear c5_B1
  go_ret
  exact ⟨rfl, K4⟩
theorem VecOne_any (p : V3) (w : World) :
    Calls Try.prog 8 #[.agg #[.int .i64 p.1, .int .i64 p.2.1, .int .i64 p.2.2]] w fun e w' => e = .returned (.bool true) ∧ Below w.heap.size w w' := by
  cases h : vNormS false p with
  | mk n bad =>
    cases bad
    · by_cases hc : n < 1048576
      · exact VecOne_small p w n h hc
      · obtain ⟨u0, u1, u2, N, hu, hN, b1, b2, b3⟩ := one_math p n h (by omega)
        by_cases hl : 1099511627776 ≤ n
        · exact VecOne_long p w n u0 u1 u2 N h hu hN hl (b3 hl).1 (b3 hl).2
        · exact VecOne_mid p w n u0 u1 u2 N h (by omega) hu hN (by omega) b1 b2
    · exact VecOne_bad p w n h
end Go.Proofs.Ytfokapiceibfnaa
