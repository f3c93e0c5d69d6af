/-
  The walk of the law SunSides, for the seat Ytnfaafdoefpomaa. (Made by mksun.py.)
-/
import Derived.Test.YtnfaafdoefpomaaSAwake
import Derived.Handy
import Derived.Deep.RegionHeld3
namespace Go.Proofs.Ytnfaafdoefpomaa
open Go.RowKit

set_option maxRecDepth 100000 in
set_option maxHeartbeats 4000000 in
theorem SunSides_a (p : V3) (t : Int) (k : Int) (w : World) (hd : dirS false t = ((0, 0, 0), true)) :
    Calls Try.prog 6 #[.agg #[.int .i64 p.1, .int .i64 p.2.1, .int .i64 p.2.2], .int .i64 t, .int .i64 k] w fun e w' => e = .returned (.bool true) ∧ Below w.heap.size w w' := by
  go_enter Try.func6, Try.ntmps6
  have y1_low : w.heap.size ≤ w.heap.size := (Below.refl w.heap.size w).size
  go_wp2_with fail
  refine (awake_any  _).mono ?_
  rintro e w1 ⟨rfl, k1⟩
  have K1 : Below w.heap.size w w1 := bel_then (bel_al (Below.refl w.heap.size w) _) k1
  have B0_1 : Arr w.heap.size [.int .i64 p.1, .int .i64 p.2.1, .int .i64 p.2.2] w1 := (Arr_at _ _ [.int .i64 p.1, .int .i64 p.2.1, .int .i64 p.2.2] _ (by simp)).below k1
  have z1 := B0_1.lies
  clear k1
  have y2_B0 : w.heap.size < w1.heap.size := B0_1.lies
  have y2_low : w.heap.size ≤ w1.heap.size := K1.size
  go_wp2_with fail
  refine (sDir_any w1.heap.size false t _ (Fl_at _ _ _ _ (by simp))).mono ?_
  rintro e w2 ⟨rfl, f2, k2⟩
  rw [hd] at f2 ⊢
  dsimp only at f2 ⊢
  have K2 : Below w.heap.size w w2 := k2.on (bel_al K1 _) (by omega)
  have B0_2 : Arr w.heap.size [.int .i64 p.1, .int .i64 p.2.1, .int .i64 p.2.2] w2 := (B0_1.alloc _).kept k2 (Nat.ne_of_lt y2_B0)
  have z2 := f2.lies
  clear K1 B0_1 k2
  have y3_B0 : w.heap.size < w2.heap.size := B0_2.lies
  have y3_B1 : w1.heap.size < w2.heap.size := f2.lies
  have y3_low : w.heap.size ≤ w2.heap.size := K2.size
  have c3_B1 := f2.cell
  have l3_B1 := f2.lies
  go_wp2
  clear c3_B1 l3_B1
  go_ret
  exact ⟨rfl, (bel_al K2 _)⟩
set_option maxRecDepth 100000 in
set_option maxHeartbeats 4000000 in
theorem SunSides_b (p : V3) (t : Int) (k : Int) (w : World) (x y z n : Int) (hd : dirS false t = ((x, y, z), false)) (nb : Bool) (hn : vNormS false p = (n, nb)) (c1 : n > 1099511627776000) :
    Calls Try.prog 6 #[.agg #[.int .i64 p.1, .int .i64 p.2.1, .int .i64 p.2.2], .int .i64 t, .int .i64 k] w fun e w' => e = .returned (.bool true) ∧ Below w.heap.size w w' := by
  go_enter Try.func6, Try.ntmps6
  have y1_low : w.heap.size ≤ w.heap.size := (Below.refl w.heap.size w).size
  go_wp2_with fail
  refine (awake_any  _).mono ?_
  rintro e w1 ⟨rfl, k1⟩
  have K1 : Below w.heap.size w w1 := bel_then (bel_al (Below.refl w.heap.size w) _) k1
  have B0_1 : Arr w.heap.size [.int .i64 p.1, .int .i64 p.2.1, .int .i64 p.2.2] w1 := (Arr_at _ _ [.int .i64 p.1, .int .i64 p.2.1, .int .i64 p.2.2] _ (by simp)).below k1
  have z1 := B0_1.lies
  clear k1
  have y2_B0 : w.heap.size < w1.heap.size := B0_1.lies
  have y2_low : w.heap.size ≤ w1.heap.size := K1.size
  go_wp2_with fail
  refine (sDir_any w1.heap.size false t _ (Fl_at _ _ _ _ (by simp))).mono ?_
  rintro e w2 ⟨rfl, f2, k2⟩
  rw [hd] at f2 ⊢
  dsimp only at f2 ⊢
  have K2 : Below w.heap.size w w2 := k2.on (bel_al K1 _) (by omega)
  have B0_2 : Arr w.heap.size [.int .i64 p.1, .int .i64 p.2.1, .int .i64 p.2.2] w2 := (B0_1.alloc _).kept k2 (Nat.ne_of_lt y2_B0)
  have z2 := f2.lies
  clear K1 B0_1 k2
  have y3_B0 : w.heap.size < w2.heap.size := B0_2.lies
  have y3_B1 : w1.heap.size < w2.heap.size := f2.lies
  have y3_low : w.heap.size ≤ w2.heap.size := K2.size
  have c3_B0_0 : w2.cell? ⟨w.heap.size, 0, none⟩ = some (.int .i64 p.1) := B0_2.c 0 (of_decide_eq_true rfl)
  have c3_B0_1 : w2.cell? ⟨w.heap.size, 1, none⟩ = some (.int .i64 p.2.1) := B0_2.c 1 (of_decide_eq_true rfl)
  have c3_B0_2 : w2.cell? ⟨w.heap.size, 2, none⟩ = some (.int .i64 p.2.2) := B0_2.c 2 (of_decide_eq_true rfl)
  have c3_B1 := f2.cell
  have l3_B0 := B0_2.lies
  have l3_B1 := f2.lies
  go_wp2_with fail
  refine (vNorm_any w1.heap.size false p _ (f2.alloc _)).mono ?_
  rintro e w3 ⟨rfl, f3, k3⟩
  rw [hn] at f3 ⊢
  dsimp only at f3 ⊢
  have K3 : Below w.heap.size w w3 := k3.on (bel_al K2 _) (by omega)
  have B0_3 : Arr w.heap.size [.int .i64 p.1, .int .i64 p.2.1, .int .i64 p.2.2] w3 := (B0_2.alloc _).kept k3 (Nat.ne_of_lt y2_B0)
  have B2_3 : Arr w2.heap.size [.int .i64 x, .int .i64 y, .int .i64 z] w3 := (Arr_at _ _ [.int .i64 x, .int .i64 y, .int .i64 z] _ (by simp)).kept k3 (Nat.ne_of_gt y3_B1)
  have z3 := B2_3.lies
  clear c3_B0_0 c3_B0_1 c3_B0_2 c3_B1 l3_B0 l3_B1 K2 B0_2 f2 k3
  go_wp2
  go_ret
  exact ⟨rfl, K3⟩
set_option maxRecDepth 100000 in
set_option maxHeartbeats 4000000 in
theorem SunSides_c (p : V3) (t : Int) (k : Int) (w : World) (x y z n : Int) (hd : dirS false t = ((x, y, z), false)) (hn : vNormS false p = (n, true)) (c1 : ¬ n > 1099511627776000) :
    Calls Try.prog 6 #[.agg #[.int .i64 p.1, .int .i64 p.2.1, .int .i64 p.2.2], .int .i64 t, .int .i64 k] w fun e w' => e = .returned (.bool true) ∧ Below w.heap.size w w' := by
  go_enter Try.func6, Try.ntmps6
  have y1_low : w.heap.size ≤ w.heap.size := (Below.refl w.heap.size w).size
  go_wp2_with fail
  refine (awake_any  _).mono ?_
  rintro e w1 ⟨rfl, k1⟩
  have K1 : Below w.heap.size w w1 := bel_then (bel_al (Below.refl w.heap.size w) _) k1
  have B0_1 : Arr w.heap.size [.int .i64 p.1, .int .i64 p.2.1, .int .i64 p.2.2] w1 := (Arr_at _ _ [.int .i64 p.1, .int .i64 p.2.1, .int .i64 p.2.2] _ (by simp)).below k1
  have z1 := B0_1.lies
  clear k1
  have y2_B0 : w.heap.size < w1.heap.size := B0_1.lies
  have y2_low : w.heap.size ≤ w1.heap.size := K1.size
  go_wp2_with fail
  refine (sDir_any w1.heap.size false t _ (Fl_at _ _ _ _ (by simp))).mono ?_
  rintro e w2 ⟨rfl, f2, k2⟩
  rw [hd] at f2 ⊢
  dsimp only at f2 ⊢
  have K2 : Below w.heap.size w w2 := k2.on (bel_al K1 _) (by omega)
  have B0_2 : Arr w.heap.size [.int .i64 p.1, .int .i64 p.2.1, .int .i64 p.2.2] w2 := (B0_1.alloc _).kept k2 (Nat.ne_of_lt y2_B0)
  have z2 := f2.lies
  clear K1 B0_1 k2
  have y3_B0 : w.heap.size < w2.heap.size := B0_2.lies
  have y3_B1 : w1.heap.size < w2.heap.size := f2.lies
  have y3_low : w.heap.size ≤ w2.heap.size := K2.size
  have c3_B0_0 : w2.cell? ⟨w.heap.size, 0, none⟩ = some (.int .i64 p.1) := B0_2.c 0 (of_decide_eq_true rfl)
  have c3_B0_1 : w2.cell? ⟨w.heap.size, 1, none⟩ = some (.int .i64 p.2.1) := B0_2.c 1 (of_decide_eq_true rfl)
  have c3_B0_2 : w2.cell? ⟨w.heap.size, 2, none⟩ = some (.int .i64 p.2.2) := B0_2.c 2 (of_decide_eq_true rfl)
  have c3_B1 := f2.cell
  have l3_B0 := B0_2.lies
  have l3_B1 := f2.lies
  go_wp2_with fail
  refine (vNorm_any w1.heap.size false p _ (f2.alloc _)).mono ?_
  rintro e w3 ⟨rfl, f3, k3⟩
  rw [hn] at f3 ⊢
  dsimp only at f3 ⊢
  have K3 : Below w.heap.size w w3 := k3.on (bel_al K2 _) (by omega)
  have B0_3 : Arr w.heap.size [.int .i64 p.1, .int .i64 p.2.1, .int .i64 p.2.2] w3 := (B0_2.alloc _).kept k3 (Nat.ne_of_lt y2_B0)
  have B2_3 : Arr w2.heap.size [.int .i64 x, .int .i64 y, .int .i64 z] w3 := (Arr_at _ _ [.int .i64 x, .int .i64 y, .int .i64 z] _ (by simp)).kept k3 (Nat.ne_of_gt y3_B1)
  have z3 := B2_3.lies
  clear c3_B0_0 c3_B0_1 c3_B0_2 c3_B1 l3_B0 l3_B1 K2 B0_2 f2 k3
  have c4_B1 := f3.cell
  go_wp2
  clear c4_B1
  go_ret
  exact ⟨rfl, K3⟩
set_option maxRecDepth 100000 in
set_option maxHeartbeats 4000000 in
theorem SunSides_d (p : V3) (t : Int) (k : Int) (w : World) (x y z n : Int) (hd : dirS false t = ((x, y, z), false)) (hn : vNormS false p = (n, false)) (c1 : ¬ n > 1099511627776000) (c2 : k < 1099511627776) :
    Calls Try.prog 6 #[.agg #[.int .i64 p.1, .int .i64 p.2.1, .int .i64 p.2.2], .int .i64 t, .int .i64 k] w fun e w' => e = .returned (.bool true) ∧ Below w.heap.size w w' := by
  go_enter Try.func6, Try.ntmps6
  have y1_low : w.heap.size ≤ w.heap.size := (Below.refl w.heap.size w).size
  go_wp2_with fail
  refine (awake_any  _).mono ?_
  rintro e w1 ⟨rfl, k1⟩
  have K1 : Below w.heap.size w w1 := bel_then (bel_al (Below.refl w.heap.size w) _) k1
  have B0_1 : Arr w.heap.size [.int .i64 p.1, .int .i64 p.2.1, .int .i64 p.2.2] w1 := (Arr_at _ _ [.int .i64 p.1, .int .i64 p.2.1, .int .i64 p.2.2] _ (by simp)).below k1
  have z1 := B0_1.lies
  clear k1
  have y2_B0 : w.heap.size < w1.heap.size := B0_1.lies
  have y2_low : w.heap.size ≤ w1.heap.size := K1.size
  go_wp2_with fail
  refine (sDir_any w1.heap.size false t _ (Fl_at _ _ _ _ (by simp))).mono ?_
  rintro e w2 ⟨rfl, f2, k2⟩
  rw [hd] at f2 ⊢
  dsimp only at f2 ⊢
  have K2 : Below w.heap.size w w2 := k2.on (bel_al K1 _) (by omega)
  have B0_2 : Arr w.heap.size [.int .i64 p.1, .int .i64 p.2.1, .int .i64 p.2.2] w2 := (B0_1.alloc _).kept k2 (Nat.ne_of_lt y2_B0)
  have z2 := f2.lies
  clear K1 B0_1 k2
  have y3_B0 : w.heap.size < w2.heap.size := B0_2.lies
  have y3_B1 : w1.heap.size < w2.heap.size := f2.lies
  have y3_low : w.heap.size ≤ w2.heap.size := K2.size
  have c3_B0_0 : w2.cell? ⟨w.heap.size, 0, none⟩ = some (.int .i64 p.1) := B0_2.c 0 (of_decide_eq_true rfl)
  have c3_B0_1 : w2.cell? ⟨w.heap.size, 1, none⟩ = some (.int .i64 p.2.1) := B0_2.c 1 (of_decide_eq_true rfl)
  have c3_B0_2 : w2.cell? ⟨w.heap.size, 2, none⟩ = some (.int .i64 p.2.2) := B0_2.c 2 (of_decide_eq_true rfl)
  have c3_B1 := f2.cell
  have l3_B0 := B0_2.lies
  have l3_B1 := f2.lies
  go_wp2_with fail
  refine (vNorm_any w1.heap.size false p _ (f2.alloc _)).mono ?_
  rintro e w3 ⟨rfl, f3, k3⟩
  rw [hn] at f3 ⊢
  dsimp only at f3 ⊢
  have K3 : Below w.heap.size w w3 := k3.on (bel_al K2 _) (by omega)
  have B0_3 : Arr w.heap.size [.int .i64 p.1, .int .i64 p.2.1, .int .i64 p.2.2] w3 := (B0_2.alloc _).kept k3 (Nat.ne_of_lt y2_B0)
  have B2_3 : Arr w2.heap.size [.int .i64 x, .int .i64 y, .int .i64 z] w3 := (Arr_at _ _ [.int .i64 x, .int .i64 y, .int .i64 z] _ (by simp)).kept k3 (Nat.ne_of_gt y3_B1)
  have z3 := B2_3.lies
  clear c3_B0_0 c3_B0_1 c3_B0_2 c3_B1 l3_B0 l3_B1 K2 B0_2 f2 k3
  have c4_B1 := f3.cell
  go_wp2
  clear c4_B1
  go_ret
  exact ⟨rfl, K3⟩
set_option maxRecDepth 100000 in
set_option maxHeartbeats 4000000 in
theorem SunSides_e (p : V3) (t : Int) (k : Int) (w : World) (x y z n : Int) (hd : dirS false t = ((x, y, z), false)) (hn : vNormS false p = (n, false)) (c1 : ¬ n > 1099511627776000) (c2 : ¬ k < 1099511627776) (c3 : k > 1099511627776000) :
    Calls Try.prog 6 #[.agg #[.int .i64 p.1, .int .i64 p.2.1, .int .i64 p.2.2], .int .i64 t, .int .i64 k] w fun e w' => e = .returned (.bool true) ∧ Below w.heap.size w w' := by
  go_enter Try.func6, Try.ntmps6
  have y1_low : w.heap.size ≤ w.heap.size := (Below.refl w.heap.size w).size
  go_wp2_with fail
  refine (awake_any  _).mono ?_
  rintro e w1 ⟨rfl, k1⟩
  have K1 : Below w.heap.size w w1 := bel_then (bel_al (Below.refl w.heap.size w) _) k1
  have B0_1 : Arr w.heap.size [.int .i64 p.1, .int .i64 p.2.1, .int .i64 p.2.2] w1 := (Arr_at _ _ [.int .i64 p.1, .int .i64 p.2.1, .int .i64 p.2.2] _ (by simp)).below k1
  have z1 := B0_1.lies
  clear k1
  have y2_B0 : w.heap.size < w1.heap.size := B0_1.lies
  have y2_low : w.heap.size ≤ w1.heap.size := K1.size
  go_wp2_with fail
  refine (sDir_any w1.heap.size false t _ (Fl_at _ _ _ _ (by simp))).mono ?_
  rintro e w2 ⟨rfl, f2, k2⟩
  rw [hd] at f2 ⊢
  dsimp only at f2 ⊢
  have K2 : Below w.heap.size w w2 := k2.on (bel_al K1 _) (by omega)
  have B0_2 : Arr w.heap.size [.int .i64 p.1, .int .i64 p.2.1, .int .i64 p.2.2] w2 := (B0_1.alloc _).kept k2 (Nat.ne_of_lt y2_B0)
  have z2 := f2.lies
  clear K1 B0_1 k2
  have y3_B0 : w.heap.size < w2.heap.size := B0_2.lies
  have y3_B1 : w1.heap.size < w2.heap.size := f2.lies
  have y3_low : w.heap.size ≤ w2.heap.size := K2.size
  have c3_B0_0 : w2.cell? ⟨w.heap.size, 0, none⟩ = some (.int .i64 p.1) := B0_2.c 0 (of_decide_eq_true rfl)
  have c3_B0_1 : w2.cell? ⟨w.heap.size, 1, none⟩ = some (.int .i64 p.2.1) := B0_2.c 1 (of_decide_eq_true rfl)
  have c3_B0_2 : w2.cell? ⟨w.heap.size, 2, none⟩ = some (.int .i64 p.2.2) := B0_2.c 2 (of_decide_eq_true rfl)
  have c3_B1 := f2.cell
  have l3_B0 := B0_2.lies
  have l3_B1 := f2.lies
  go_wp2_with fail
  refine (vNorm_any w1.heap.size false p _ (f2.alloc _)).mono ?_
  rintro e w3 ⟨rfl, f3, k3⟩
  rw [hn] at f3 ⊢
  dsimp only at f3 ⊢
  have K3 : Below w.heap.size w w3 := k3.on (bel_al K2 _) (by omega)
  have B0_3 : Arr w.heap.size [.int .i64 p.1, .int .i64 p.2.1, .int .i64 p.2.2] w3 := (B0_2.alloc _).kept k3 (Nat.ne_of_lt y2_B0)
  have B2_3 : Arr w2.heap.size [.int .i64 x, .int .i64 y, .int .i64 z] w3 := (Arr_at _ _ [.int .i64 x, .int .i64 y, .int .i64 z] _ (by simp)).kept k3 (Nat.ne_of_gt y3_B1)
  have z3 := B2_3.lies
  clear c3_B0_0 c3_B0_1 c3_B0_2 c3_B1 l3_B0 l3_B1 K2 B0_2 f2 k3
  have c4_B1 := f3.cell
  go_wp2
  clear c4_B1
  go_ret
  exact ⟨rfl, K3⟩
set_option maxRecDepth 100000 in
set_option maxHeartbeats 4000000 in
theorem SunSides_f (p : V3) (t : Int) (k : Int) (w : World) (x y z n : Int) (hd : dirS false t = ((x, y, z), false)) (hn : vNormS false p = (n, false)) (c1 : ¬ n > 1099511627776000) (c2 : ¬ k < 1099511627776) (c3 : ¬ k > 1099511627776000) (c : Int) (hc : vDotS false p (x, y, z) = (c, false)) (c4 : ¬ c ≥ 0) (p0 p1 p2 : Int) (hp : vScaleS false (x, y, z) (-k) = ((p0, p1, p2), false)) (hs : shadS false (p0, p1, p2) (x, y, z) = (true, false)) :
    Calls Try.prog 6 #[.agg #[.int .i64 p.1, .int .i64 p.2.1, .int .i64 p.2.2], .int .i64 t, .int .i64 k] w fun e w' => e = .returned (.bool true) ∧ Below w.heap.size w w' := by
  go_enter Try.func6, Try.ntmps6
  have y1_low : w.heap.size ≤ w.heap.size := (Below.refl w.heap.size w).size
  go_wp2_with fail
  refine (awake_any  _).mono ?_
  rintro e w1 ⟨rfl, k1⟩
  have K1 : Below w.heap.size w w1 := bel_then (bel_al (Below.refl w.heap.size w) _) k1
  have B0_1 : Arr w.heap.size [.int .i64 p.1, .int .i64 p.2.1, .int .i64 p.2.2] w1 := (Arr_at _ _ [.int .i64 p.1, .int .i64 p.2.1, .int .i64 p.2.2] _ (by simp)).below k1
  have z1 := B0_1.lies
  clear k1
  have y2_B0 : w.heap.size < w1.heap.size := B0_1.lies
  have y2_low : w.heap.size ≤ w1.heap.size := K1.size
  go_wp2_with fail
  refine (sDir_any w1.heap.size false t _ (Fl_at _ _ _ _ (by simp))).mono ?_
  rintro e w2 ⟨rfl, f2, k2⟩
  rw [hd] at f2 ⊢
  dsimp only at f2 ⊢
  have K2 : Below w.heap.size w w2 := k2.on (bel_al K1 _) (by omega)
  have B0_2 : Arr w.heap.size [.int .i64 p.1, .int .i64 p.2.1, .int .i64 p.2.2] w2 := (B0_1.alloc _).kept k2 (Nat.ne_of_lt y2_B0)
  have z2 := f2.lies
  clear K1 B0_1 k2
  have y3_B0 : w.heap.size < w2.heap.size := B0_2.lies
  have y3_B1 : w1.heap.size < w2.heap.size := f2.lies
  have y3_low : w.heap.size ≤ w2.heap.size := K2.size
  have c3_B0_0 : w2.cell? ⟨w.heap.size, 0, none⟩ = some (.int .i64 p.1) := B0_2.c 0 (of_decide_eq_true rfl)
  have c3_B0_1 : w2.cell? ⟨w.heap.size, 1, none⟩ = some (.int .i64 p.2.1) := B0_2.c 1 (of_decide_eq_true rfl)
  have c3_B0_2 : w2.cell? ⟨w.heap.size, 2, none⟩ = some (.int .i64 p.2.2) := B0_2.c 2 (of_decide_eq_true rfl)
  have c3_B1 := f2.cell
  have l3_B0 := B0_2.lies
  have l3_B1 := f2.lies
  go_wp2_with fail
  refine (vNorm_any w1.heap.size false p _ (f2.alloc _)).mono ?_
  rintro e w3 ⟨rfl, f3, k3⟩
  rw [hn] at f3 ⊢
  dsimp only at f3 ⊢
  have K3 : Below w.heap.size w w3 := k3.on (bel_al K2 _) (by omega)
  have B0_3 : Arr w.heap.size [.int .i64 p.1, .int .i64 p.2.1, .int .i64 p.2.2] w3 := (B0_2.alloc _).kept k3 (Nat.ne_of_lt y2_B0)
  have B2_3 : Arr w2.heap.size [.int .i64 x, .int .i64 y, .int .i64 z] w3 := (Arr_at _ _ [.int .i64 x, .int .i64 y, .int .i64 z] _ (by simp)).kept k3 (Nat.ne_of_gt y3_B1)
  have z3 := B2_3.lies
  clear c3_B0_0 c3_B0_1 c3_B0_2 c3_B1 l3_B0 l3_B1 K2 B0_2 f2 k3
  have c4_B0_0 : w3.cell? ⟨w.heap.size, 0, none⟩ = some (.int .i64 p.1) := B0_3.c 0 (of_decide_eq_true rfl)
  have c4_B0_1 : w3.cell? ⟨w.heap.size, 1, none⟩ = some (.int .i64 p.2.1) := B0_3.c 1 (of_decide_eq_true rfl)
  have c4_B0_2 : w3.cell? ⟨w.heap.size, 2, none⟩ = some (.int .i64 p.2.2) := B0_3.c 2 (of_decide_eq_true rfl)
  have c4_B1 := f3.cell
  have c4_B2_0 : w3.cell? ⟨w2.heap.size, 0, none⟩ = some (.int .i64 x) := B2_3.c 0 (of_decide_eq_true rfl)
  have c4_B2_1 : w3.cell? ⟨w2.heap.size, 1, none⟩ = some (.int .i64 y) := B2_3.c 1 (of_decide_eq_true rfl)
  have c4_B2_2 : w3.cell? ⟨w2.heap.size, 2, none⟩ = some (.int .i64 z) := B2_3.c 2 (of_decide_eq_true rfl)
  go_wp2_with fail
  refine (vDot_any w1.heap.size false p (x, y, z) _ f3).mono ?_
  rintro e w4 ⟨rfl, f4, k4⟩
  rw [hc] at f4 ⊢
  dsimp only at f4 ⊢
  have K4 : Below w.heap.size w w4 := k4.on K3 (by omega)
  have B0_4 : Arr w.heap.size [.int .i64 p.1, .int .i64 p.2.1, .int .i64 p.2.2] w4 := B0_3.kept k4 (Nat.ne_of_lt y2_B0)
  have B2_4 : Arr w2.heap.size [.int .i64 x, .int .i64 y, .int .i64 z] w4 := B2_3.kept k4 (Nat.ne_of_gt y3_B1)
  have z4 := B2_4.lies
  clear c4_B0_0 c4_B0_1 c4_B0_2 c4_B1 c4_B2_0 c4_B2_1 c4_B2_2 K3 B0_3 f3 B2_3 k4
  go_wp2_with fail
  refine wp_region_held_drew (S := fun w' => Arr w2.heap.size [.int .i64 x, .int .i64 y, .int .i64 z] w') (by kernel_rfl) B2_4.drew (fun hHeld => ?_)
  refine take_at (i := 0) (v := ?v1) rfl (by kernel_rfl) (by kernel_rfl) (by kernel_rfl) (fun _ _ _ h => h) (Or.inl ⟨by rfl, ?y1⟩) hHeld ?t1
  case y1 => (intro wx hSw; go_simp <;> with_reducible rfl)
  simp only [Act.put, List.setIfInBounds_toArray, List.set_cons_zero, List.set_cons_succ]
  refine take_at (i := 1) (v := ?v2) rfl (by kernel_rfl) (by kernel_rfl) (by kernel_rfl) (fun _ _ _ h => h) (Or.inl ⟨by rfl, ?y2⟩) hHeld ?t2
  case y2 => (intro wx hSw; go_simp <;> with_reducible rfl)
  simp only [Act.put, List.setIfInBounds_toArray, List.set_cons_zero, List.set_cons_succ]
  refine take_at (i := 2) (v := ?v3) rfl (by kernel_rfl) (by kernel_rfl) (by kernel_rfl) (fun _ _ _ h => h) (Or.inl ⟨by rfl, ?y3⟩) hHeld ?t3
  case y3 => (intro wx hSw; have hc0 : wx.cell? ⟨w2.heap.size, 0, none⟩ = some (.int .i64 x) := hSw.c 0 (of_decide_eq_true rfl); have hc1 : wx.cell? ⟨w2.heap.size, 1, none⟩ = some (.int .i64 y) := hSw.c 1 (of_decide_eq_true rfl); have hc2 : wx.cell? ⟨w2.heap.size, 2, none⟩ = some (.int .i64 z) := hSw.c 2 (of_decide_eq_true rfl); go_simp <;> with_reducible rfl)
  simp only [Act.put, List.setIfInBounds_toArray, List.set_cons_zero, List.set_cons_succ]
  refine take_at (i := 3) (v := ?v4) rfl (by kernel_rfl) (by kernel_rfl) (by kernel_rfl) (fun _ _ _ h => h) (Or.inl ⟨by rfl, ?y4⟩) hHeld ?t4
  case y4 => (intro wx hSw; go_simp <;> with_reducible rfl)
  simp only [Act.put, List.setIfInBounds_toArray, List.set_cons_zero, List.set_cons_succ]
  refine take_at (i := 4) (v := ?v5) rfl (by kernel_rfl) (by kernel_rfl) (by kernel_rfl) (fun _ _ _ h => h) (Or.inl ⟨by rfl, ?y5⟩) hHeld ?t5
  case y5 => (intro wx hSw; go_simp <;> with_reducible rfl)
  simp only [Act.put, List.setIfInBounds_toArray, List.set_cons_zero, List.set_cons_succ]
  rw [IntWalk.i64_in (-k) (by omega)]
  refine take_at (i := 6) (v := ?v6) rfl (by kernel_rfl) (by kernel_rfl) (by kernel_rfl) (fun _ _ _ h => h) (Or.inl ⟨by rfl, ?y6⟩) hHeld ?t6
  case y6 => (intro wx hSw; have hc0 : wx.cell? ⟨w2.heap.size, 0, none⟩ = some (.int .i64 x) := hSw.c 0 (of_decide_eq_true rfl); have hc1 : wx.cell? ⟨w2.heap.size, 1, none⟩ = some (.int .i64 y) := hSw.c 1 (of_decide_eq_true rfl); have hc2 : wx.cell? ⟨w2.heap.size, 2, none⟩ = some (.int .i64 z) := hSw.c 2 (of_decide_eq_true rfl); go_simp <;> with_reducible rfl)
  simp only [Act.put, List.setIfInBounds_toArray, List.set_cons_zero, List.set_cons_succ]
  refine call_at (i := 5) (by kernel_rfl) rfl (fun K hK => ?_)
  go_simp
  refine (vScale_any w1.heap.size false (x, y, z) (-k) _ f4.drew).mono ?_
  rintro e w5 ⟨rfl, f5, k5⟩
  rw [hp] at f5 ⊢
  dsimp only at f5 ⊢
  have K5 : Below w.heap.size w w5 := k5.on (Below.drew K4) (by omega)
  have B0_5 : Arr w.heap.size [.int .i64 p.1, .int .i64 p.2.1, .int .i64 p.2.2] w5 := B0_4.drew.kept k5 (Nat.ne_of_lt y2_B0)
  have B2_5 : Arr w2.heap.size [.int .i64 x, .int .i64 y, .int .i64 z] w5 := B2_4.drew.kept k5 (Nat.ne_of_gt y3_B1)
  have z5 := B2_5.lies
  clear hHeld
  refine hK.out _ _ B2_5 (fun hHeld => ?_)
  clear hK K K4 B0_4 f4 B2_4 k5
  refine call_at (i := 7) (by kernel_rfl) rfl (fun K hK => ?_)
  go_simp
  refine (sShad_any w1.heap.size false (p0, p1, p2) (x, y, z) _ f5).mono ?_
  rintro e w6 ⟨rfl, f6, k6⟩
  rw [hs] at f6 ⊢
  dsimp only at f6 ⊢
  have K6 : Below w.heap.size w w6 := k6.on K5 (by omega)
  have B0_6 : Arr w.heap.size [.int .i64 p.1, .int .i64 p.2.1, .int .i64 p.2.2] w6 := B0_5.kept k6 (Nat.ne_of_lt y2_B0)
  have B2_6 : Arr w2.heap.size [.int .i64 x, .int .i64 y, .int .i64 z] w6 := B2_5.kept k6 (Nat.ne_of_gt y3_B1)
  have z6 := B2_6.lies
  clear hHeld
  refine hK.out _ _ B2_6 (fun hHeld => ?_)
  clear hK K K5 B0_5 f5 B2_5 k6
  refine wpAnyH_swap (S := fun w' => Arr w2.heap.size [.int .i64 x, .int .i64 y, .int .i64 z] w' ∧ Fl w1.heap.size false w') (fun _ h => h.1) ?_
  clear hHeld
  have hHeld : Arr w2.heap.size [.int .i64 x, .int .i64 y, .int .i64 z] w6 ∧ Fl w1.heap.size false w6 := ⟨B2_6, f6⟩
  refine take_at (i := 8) (v := ?v7) rfl (by kernel_rfl) (by kernel_rfl) (by kernel_rfl) (fun _ _ _ h => h) (Or.inl ⟨by rfl, ?y7⟩) hHeld ?t7
  case y7 => (intro wx hSw; go_simp <;> with_reducible rfl)
  simp only [Act.put, List.setIfInBounds_toArray, List.set_cons_zero, List.set_cons_succ]
  refine take_at (i := 9) (v := ?v8) rfl (by kernel_rfl) (by kernel_rfl) (by kernel_rfl) (fun _ _ _ h => h) (Or.inl ⟨by rfl, ?y8⟩) hHeld ?t8
  case y8 => (intro wx hSw; go_simp <;> with_reducible rfl)
  simp only [Act.put, List.setIfInBounds_toArray, List.set_cons_zero, List.set_cons_succ]
  refine take_at (i := 10) (v := ?v9) rfl (by kernel_rfl) (by kernel_rfl) (by kernel_rfl) (fun _ _ _ h => h) (Or.inl ⟨by rfl, ?y9⟩) hHeld ?t9
  case y9 => (intro wx hSw; go_simp <;> with_reducible rfl)
  simp only [Act.put, List.setIfInBounds_toArray, List.set_cons_zero, List.set_cons_succ]
  refine take_at (i := 11) (v := ?v10) rfl (by kernel_rfl) (by kernel_rfl) (by kernel_rfl) (fun _ _ _ h => h) (Or.inl ⟨by rfl, ?y10⟩) hHeld ?t10
  case y10 => (intro wx hSw; go_simp <;> with_reducible rfl)
  simp only [Act.put, List.setIfInBounds_toArray, List.set_cons_zero, List.set_cons_succ]
  refine take_at (i := 12) (v := ?v11) rfl (by kernel_rfl) (by kernel_rfl) (by kernel_rfl) (fun _ _ _ h => h) (Or.inl ⟨by rfl, ?y11⟩) hHeld ?t11
  case y11 => (intro wx hSw; have hc0 : wx.cell? ⟨w1.heap.size, 0, none⟩ = some (.bool false) := hSw.2.cell; go_simp <;> with_reducible rfl)
  simp only [Act.put, List.setIfInBounds_toArray, List.set_cons_zero, List.set_cons_succ]
  refine take_at (i := 13) (v := ?v12) rfl (by kernel_rfl) (by kernel_rfl) (by kernel_rfl) (fun _ _ _ h => h) (Or.inl ⟨by rfl, ?y12⟩) hHeld ?t12
  case y12 => (intro wx hSw; go_simp <;> with_reducible rfl)
  simp only [Act.put, List.setIfInBounds_toArray, List.set_cons_zero, List.set_cons_succ]
  refine take_at (i := 14) (v := ?v13) rfl (by kernel_rfl) (by kernel_rfl) (by kernel_rfl) (fun _ _ _ h => h) (Or.inl ⟨by rfl, ?y13⟩) hHeld ?t13
  case y13 => (intro wx hSw; go_simp <;> with_reducible rfl)
  simp only [Act.put, List.setIfInBounds_toArray, List.set_cons_zero, List.set_cons_succ]
  refine take_at (i := 15) (v := ?v14) rfl (by kernel_rfl) (by kernel_rfl) (by kernel_rfl) (fun _ _ _ h => h) (Or.inl ⟨by rfl, ?y14⟩) hHeld ?t14
  case y14 => (intro wx hSw; go_simp <;> with_reducible rfl)
  simp only [Act.put, List.setIfInBounds_toArray, List.set_cons_zero, List.set_cons_succ]
  refine wpAnyH_done (by kernel_rfl) ?_ _
  clear hHeld
  go_wp2
  go_ret
  exact ⟨rfl, K6⟩
set_option maxRecDepth 100000 in
set_option maxHeartbeats 4000000 in
theorem SunSides_g (p : V3) (t : Int) (k : Int) (w : World) (x y z n : Int) (hd : dirS false t = ((x, y, z), false)) (hn : vNormS false p = (n, false)) (c1 : ¬ n > 1099511627776000) (c2 : ¬ k < 1099511627776) (c3 : ¬ k > 1099511627776000) (c : Int) (hc : vDotS false p (x, y, z) = (c, false)) (c4 : c ≥ 0) (h1 : shadS false p (x, y, z) = (false, false)) (p0 p1 p2 : Int) (hp : vScaleS false (x, y, z) (-k) = ((p0, p1, p2), false)) (hs : shadS false (p0, p1, p2) (x, y, z) = (true, false)) :
    Calls Try.prog 6 #[.agg #[.int .i64 p.1, .int .i64 p.2.1, .int .i64 p.2.2], .int .i64 t, .int .i64 k] w fun e w' => e = .returned (.bool true) ∧ Below w.heap.size w w' := by
  go_enter Try.func6, Try.ntmps6
  have y1_low : w.heap.size ≤ w.heap.size := (Below.refl w.heap.size w).size
  go_wp2_with fail
  refine (awake_any  _).mono ?_
  rintro e w1 ⟨rfl, k1⟩
  have K1 : Below w.heap.size w w1 := bel_then (bel_al (Below.refl w.heap.size w) _) k1
  have B0_1 : Arr w.heap.size [.int .i64 p.1, .int .i64 p.2.1, .int .i64 p.2.2] w1 := (Arr_at _ _ [.int .i64 p.1, .int .i64 p.2.1, .int .i64 p.2.2] _ (by simp)).below k1
  have z1 := B0_1.lies
  clear k1
  have y2_B0 : w.heap.size < w1.heap.size := B0_1.lies
  have y2_low : w.heap.size ≤ w1.heap.size := K1.size
  go_wp2_with fail
  refine (sDir_any w1.heap.size false t _ (Fl_at _ _ _ _ (by simp))).mono ?_
  rintro e w2 ⟨rfl, f2, k2⟩
  rw [hd] at f2 ⊢
  dsimp only at f2 ⊢
  have K2 : Below w.heap.size w w2 := k2.on (bel_al K1 _) (by omega)
  have B0_2 : Arr w.heap.size [.int .i64 p.1, .int .i64 p.2.1, .int .i64 p.2.2] w2 := (B0_1.alloc _).kept k2 (Nat.ne_of_lt y2_B0)
  have z2 := f2.lies
  clear K1 B0_1 k2
  have y3_B0 : w.heap.size < w2.heap.size := B0_2.lies
  have y3_B1 : w1.heap.size < w2.heap.size := f2.lies
  have y3_low : w.heap.size ≤ w2.heap.size := K2.size
  have c3_B0_0 : w2.cell? ⟨w.heap.size, 0, none⟩ = some (.int .i64 p.1) := B0_2.c 0 (of_decide_eq_true rfl)
  have c3_B0_1 : w2.cell? ⟨w.heap.size, 1, none⟩ = some (.int .i64 p.2.1) := B0_2.c 1 (of_decide_eq_true rfl)
  have c3_B0_2 : w2.cell? ⟨w.heap.size, 2, none⟩ = some (.int .i64 p.2.2) := B0_2.c 2 (of_decide_eq_true rfl)
  have c3_B1 := f2.cell
  have l3_B0 := B0_2.lies
  have l3_B1 := f2.lies
  go_wp2_with fail
  refine (vNorm_any w1.heap.size false p _ (f2.alloc _)).mono ?_
  rintro e w3 ⟨rfl, f3, k3⟩
  rw [hn] at f3 ⊢
  dsimp only at f3 ⊢
  have K3 : Below w.heap.size w w3 := k3.on (bel_al K2 _) (by omega)
  have B0_3 : Arr w.heap.size [.int .i64 p.1, .int .i64 p.2.1, .int .i64 p.2.2] w3 := (B0_2.alloc _).kept k3 (Nat.ne_of_lt y2_B0)
  have B2_3 : Arr w2.heap.size [.int .i64 x, .int .i64 y, .int .i64 z] w3 := (Arr_at _ _ [.int .i64 x, .int .i64 y, .int .i64 z] _ (by simp)).kept k3 (Nat.ne_of_gt y3_B1)
  have z3 := B2_3.lies
  clear c3_B0_0 c3_B0_1 c3_B0_2 c3_B1 l3_B0 l3_B1 K2 B0_2 f2 k3
  have c4_B0_0 : w3.cell? ⟨w.heap.size, 0, none⟩ = some (.int .i64 p.1) := B0_3.c 0 (of_decide_eq_true rfl)
  have c4_B0_1 : w3.cell? ⟨w.heap.size, 1, none⟩ = some (.int .i64 p.2.1) := B0_3.c 1 (of_decide_eq_true rfl)
  have c4_B0_2 : w3.cell? ⟨w.heap.size, 2, none⟩ = some (.int .i64 p.2.2) := B0_3.c 2 (of_decide_eq_true rfl)
  have c4_B1 := f3.cell
  have c4_B2_0 : w3.cell? ⟨w2.heap.size, 0, none⟩ = some (.int .i64 x) := B2_3.c 0 (of_decide_eq_true rfl)
  have c4_B2_1 : w3.cell? ⟨w2.heap.size, 1, none⟩ = some (.int .i64 y) := B2_3.c 1 (of_decide_eq_true rfl)
  have c4_B2_2 : w3.cell? ⟨w2.heap.size, 2, none⟩ = some (.int .i64 z) := B2_3.c 2 (of_decide_eq_true rfl)
  go_wp2_with fail
  refine (vDot_any w1.heap.size false p (x, y, z) _ f3).mono ?_
  rintro e w4 ⟨rfl, f4, k4⟩
  rw [hc] at f4 ⊢
  dsimp only at f4 ⊢
  have K4 : Below w.heap.size w w4 := k4.on K3 (by omega)
  have B0_4 : Arr w.heap.size [.int .i64 p.1, .int .i64 p.2.1, .int .i64 p.2.2] w4 := B0_3.kept k4 (Nat.ne_of_lt y2_B0)
  have B2_4 : Arr w2.heap.size [.int .i64 x, .int .i64 y, .int .i64 z] w4 := B2_3.kept k4 (Nat.ne_of_gt y3_B1)
  have z4 := B2_4.lies
  clear c4_B0_0 c4_B0_1 c4_B0_2 c4_B1 c4_B2_0 c4_B2_1 c4_B2_2 K3 B0_3 f3 B2_3 k4
  have c5_B0_0 : w4.cell? ⟨w.heap.size, 0, none⟩ = some (.int .i64 p.1) := B0_4.c 0 (of_decide_eq_true rfl)
  have c5_B0_1 : w4.cell? ⟨w.heap.size, 1, none⟩ = some (.int .i64 p.2.1) := B0_4.c 1 (of_decide_eq_true rfl)
  have c5_B0_2 : w4.cell? ⟨w.heap.size, 2, none⟩ = some (.int .i64 p.2.2) := B0_4.c 2 (of_decide_eq_true rfl)
  have c5_B2_0 : w4.cell? ⟨w2.heap.size, 0, none⟩ = some (.int .i64 x) := B2_4.c 0 (of_decide_eq_true rfl)
  have c5_B2_1 : w4.cell? ⟨w2.heap.size, 1, none⟩ = some (.int .i64 y) := B2_4.c 1 (of_decide_eq_true rfl)
  have c5_B2_2 : w4.cell? ⟨w2.heap.size, 2, none⟩ = some (.int .i64 z) := B2_4.c 2 (of_decide_eq_true rfl)
  go_wp2_with fail
  refine (sShad_any w1.heap.size false p (x, y, z) _ f4).mono ?_
  rintro e w5 ⟨rfl, f5, k5⟩
  rw [h1] at f5 ⊢
  dsimp only at f5 ⊢
  have K5 : Below w.heap.size w w5 := k5.on K4 (by omega)
  have B0_5 : Arr w.heap.size [.int .i64 p.1, .int .i64 p.2.1, .int .i64 p.2.2] w5 := B0_4.kept k5 (Nat.ne_of_lt y2_B0)
  have B2_5 : Arr w2.heap.size [.int .i64 x, .int .i64 y, .int .i64 z] w5 := B2_4.kept k5 (Nat.ne_of_gt y3_B1)
  have z5 := B2_5.lies
  clear c5_B0_0 c5_B0_1 c5_B0_2 c5_B2_0 c5_B2_1 c5_B2_2 K4 B0_4 f4 B2_4 k5
  go_wp2_with fail
  refine wp_region_held_drew (S := fun w' => Arr w2.heap.size [.int .i64 x, .int .i64 y, .int .i64 z] w') (by kernel_rfl) B2_5.drew (fun hHeld => ?_)
  refine take_at (i := 0) (v := ?v1) rfl (by kernel_rfl) (by kernel_rfl) (by kernel_rfl) (fun _ _ _ h => h) (Or.inl ⟨by rfl, ?y1⟩) hHeld ?t1
  case y1 => (intro wx hSw; go_simp <;> with_reducible rfl)
  simp only [Act.put, List.setIfInBounds_toArray, List.set_cons_zero, List.set_cons_succ]
  refine take_at (i := 1) (v := ?v2) rfl (by kernel_rfl) (by kernel_rfl) (by kernel_rfl) (fun _ _ _ h => h) (Or.inl ⟨by rfl, ?y2⟩) hHeld ?t2
  case y2 => (intro wx hSw; go_simp <;> with_reducible rfl)
  simp only [Act.put, List.setIfInBounds_toArray, List.set_cons_zero, List.set_cons_succ]
  refine take_at (i := 2) (v := ?v3) rfl (by kernel_rfl) (by kernel_rfl) (by kernel_rfl) (fun _ _ _ h => h) (Or.inl ⟨by rfl, ?y3⟩) hHeld ?t3
  case y3 => (intro wx hSw; have hc0 : wx.cell? ⟨w2.heap.size, 0, none⟩ = some (.int .i64 x) := hSw.c 0 (of_decide_eq_true rfl); have hc1 : wx.cell? ⟨w2.heap.size, 1, none⟩ = some (.int .i64 y) := hSw.c 1 (of_decide_eq_true rfl); have hc2 : wx.cell? ⟨w2.heap.size, 2, none⟩ = some (.int .i64 z) := hSw.c 2 (of_decide_eq_true rfl); go_simp <;> with_reducible rfl)
  simp only [Act.put, List.setIfInBounds_toArray, List.set_cons_zero, List.set_cons_succ]
  refine take_at (i := 3) (v := ?v4) rfl (by kernel_rfl) (by kernel_rfl) (by kernel_rfl) (fun _ _ _ h => h) (Or.inl ⟨by rfl, ?y4⟩) hHeld ?t4
  case y4 => (intro wx hSw; go_simp <;> with_reducible rfl)
  simp only [Act.put, List.setIfInBounds_toArray, List.set_cons_zero, List.set_cons_succ]
  refine take_at (i := 4) (v := ?v5) rfl (by kernel_rfl) (by kernel_rfl) (by kernel_rfl) (fun _ _ _ h => h) (Or.inl ⟨by rfl, ?y5⟩) hHeld ?t5
  case y5 => (intro wx hSw; go_simp <;> with_reducible rfl)
  simp only [Act.put, List.setIfInBounds_toArray, List.set_cons_zero, List.set_cons_succ]
  rw [IntWalk.i64_in (-k) (by omega)]
  refine take_at (i := 6) (v := ?v6) rfl (by kernel_rfl) (by kernel_rfl) (by kernel_rfl) (fun _ _ _ h => h) (Or.inl ⟨by rfl, ?y6⟩) hHeld ?t6
  case y6 => (intro wx hSw; have hc0 : wx.cell? ⟨w2.heap.size, 0, none⟩ = some (.int .i64 x) := hSw.c 0 (of_decide_eq_true rfl); have hc1 : wx.cell? ⟨w2.heap.size, 1, none⟩ = some (.int .i64 y) := hSw.c 1 (of_decide_eq_true rfl); have hc2 : wx.cell? ⟨w2.heap.size, 2, none⟩ = some (.int .i64 z) := hSw.c 2 (of_decide_eq_true rfl); go_simp <;> with_reducible rfl)
  simp only [Act.put, List.setIfInBounds_toArray, List.set_cons_zero, List.set_cons_succ]
  refine call_at (i := 5) (by kernel_rfl) rfl (fun K hK => ?_)
  go_simp
  refine (vScale_any w1.heap.size false (x, y, z) (-k) _ f5.drew).mono ?_
  rintro e w6 ⟨rfl, f6, k6⟩
  rw [hp] at f6 ⊢
  dsimp only at f6 ⊢
  have K6 : Below w.heap.size w w6 := k6.on (Below.drew K5) (by omega)
  have B0_6 : Arr w.heap.size [.int .i64 p.1, .int .i64 p.2.1, .int .i64 p.2.2] w6 := B0_5.drew.kept k6 (Nat.ne_of_lt y2_B0)
  have B2_6 : Arr w2.heap.size [.int .i64 x, .int .i64 y, .int .i64 z] w6 := B2_5.drew.kept k6 (Nat.ne_of_gt y3_B1)
  have z6 := B2_6.lies
  clear hHeld
  refine hK.out _ _ B2_6 (fun hHeld => ?_)
  clear hK K K5 B0_5 f5 B2_5 k6
  refine call_at (i := 7) (by kernel_rfl) rfl (fun K hK => ?_)
  go_simp
  refine (sShad_any w1.heap.size false (p0, p1, p2) (x, y, z) _ f6).mono ?_
  rintro e w7 ⟨rfl, f7, k7⟩
  rw [hs] at f7 ⊢
  dsimp only at f7 ⊢
  have K7 : Below w.heap.size w w7 := k7.on K6 (by omega)
  have B0_7 : Arr w.heap.size [.int .i64 p.1, .int .i64 p.2.1, .int .i64 p.2.2] w7 := B0_6.kept k7 (Nat.ne_of_lt y2_B0)
  have B2_7 : Arr w2.heap.size [.int .i64 x, .int .i64 y, .int .i64 z] w7 := B2_6.kept k7 (Nat.ne_of_gt y3_B1)
  have z7 := B2_7.lies
  clear hHeld
  refine hK.out _ _ B2_7 (fun hHeld => ?_)
  clear hK K K6 B0_6 f6 B2_6 k7
  refine wpAnyH_swap (S := fun w' => Arr w2.heap.size [.int .i64 x, .int .i64 y, .int .i64 z] w' ∧ Fl w1.heap.size false w') (fun _ h => h.1) ?_
  clear hHeld
  have hHeld : Arr w2.heap.size [.int .i64 x, .int .i64 y, .int .i64 z] w7 ∧ Fl w1.heap.size false w7 := ⟨B2_7, f7⟩
  refine take_at (i := 8) (v := ?v7) rfl (by kernel_rfl) (by kernel_rfl) (by kernel_rfl) (fun _ _ _ h => h) (Or.inl ⟨by rfl, ?y7⟩) hHeld ?t7
  case y7 => (intro wx hSw; go_simp <;> with_reducible rfl)
  simp only [Act.put, List.setIfInBounds_toArray, List.set_cons_zero, List.set_cons_succ]
  refine take_at (i := 9) (v := ?v8) rfl (by kernel_rfl) (by kernel_rfl) (by kernel_rfl) (fun _ _ _ h => h) (Or.inl ⟨by rfl, ?y8⟩) hHeld ?t8
  case y8 => (intro wx hSw; go_simp <;> with_reducible rfl)
  simp only [Act.put, List.setIfInBounds_toArray, List.set_cons_zero, List.set_cons_succ]
  refine take_at (i := 10) (v := ?v9) rfl (by kernel_rfl) (by kernel_rfl) (by kernel_rfl) (fun _ _ _ h => h) (Or.inl ⟨by rfl, ?y9⟩) hHeld ?t9
  case y9 => (intro wx hSw; go_simp <;> with_reducible rfl)
  simp only [Act.put, List.setIfInBounds_toArray, List.set_cons_zero, List.set_cons_succ]
  refine take_at (i := 11) (v := ?v10) rfl (by kernel_rfl) (by kernel_rfl) (by kernel_rfl) (fun _ _ _ h => h) (Or.inl ⟨by rfl, ?y10⟩) hHeld ?t10
  case y10 => (intro wx hSw; go_simp <;> with_reducible rfl)
  simp only [Act.put, List.setIfInBounds_toArray, List.set_cons_zero, List.set_cons_succ]
  refine take_at (i := 12) (v := ?v11) rfl (by kernel_rfl) (by kernel_rfl) (by kernel_rfl) (fun _ _ _ h => h) (Or.inl ⟨by rfl, ?y11⟩) hHeld ?t11
  case y11 => (intro wx hSw; have hc0 : wx.cell? ⟨w1.heap.size, 0, none⟩ = some (.bool false) := hSw.2.cell; go_simp <;> with_reducible rfl)
  simp only [Act.put, List.setIfInBounds_toArray, List.set_cons_zero, List.set_cons_succ]
  refine take_at (i := 13) (v := ?v12) rfl (by kernel_rfl) (by kernel_rfl) (by kernel_rfl) (fun _ _ _ h => h) (Or.inl ⟨by rfl, ?y12⟩) hHeld ?t12
  case y12 => (intro wx hSw; go_simp <;> with_reducible rfl)
  simp only [Act.put, List.setIfInBounds_toArray, List.set_cons_zero, List.set_cons_succ]
  refine take_at (i := 14) (v := ?v13) rfl (by kernel_rfl) (by kernel_rfl) (by kernel_rfl) (fun _ _ _ h => h) (Or.inl ⟨by rfl, ?y13⟩) hHeld ?t13
  case y13 => (intro wx hSw; go_simp <;> with_reducible rfl)
  simp only [Act.put, List.setIfInBounds_toArray, List.set_cons_zero, List.set_cons_succ]
  refine take_at (i := 15) (v := ?v14) rfl (by kernel_rfl) (by kernel_rfl) (by kernel_rfl) (fun _ _ _ h => h) (Or.inl ⟨by rfl, ?y14⟩) hHeld ?t14
  case y14 => (intro wx hSw; go_simp <;> with_reducible rfl)
  simp only [Act.put, List.setIfInBounds_toArray, List.set_cons_zero, List.set_cons_succ]
  refine wpAnyH_done (by kernel_rfl) ?_ _
  clear hHeld
  go_wp2
  go_ret
  exact ⟨rfl, K7⟩
theorem SunSides_any (p : V3) (t k : Int) (w : World) :
    Calls Try.prog 6 #[.agg #[.int .i64 p.1, .int .i64 p.2.1, .int .i64 p.2.2], .int .i64 t, .int .i64 k] w fun e w' => e = .returned (.bool true) ∧ Below w.heap.size w w' := by
  rcases cRight_cases t with ⟨t0, t1⟩ | hn
  case inr => exact SunSides_a p t k w (dirS_out hn)
  obtain ⟨L⟩ := dir_at t0 t1
  generalize e0 : vNormS false p = r
  obtain ⟨n, nb⟩ := r
  by_cases c1 : n > 1099511627776000
  · exact SunSides_b p t k w _ _ _ n L.e nb e0 c1
  cases nb
  case true => exact SunSides_c p t k w _ _ _ n L.e e0 c1
  by_cases c2 : k < 1099511627776
  · exact SunSides_d p t k w _ _ _ n L.e e0 c1 c2
  by_cases c3 : k > 1099511627776000
  · exact SunSides_e p t k w _ _ _ n L.e e0 c1 c2 c3
  obtain ⟨H⟩ := shade_at (place_bd e0 (by omega)) L.Q.dir
  obtain ⟨⟨p0, p1, p2⟩, hp, B, b1, b2⟩ := behind (far := k) L.Q.dir L.Q.len (by omega) (by omega)
  have hs := shad_of B
  rw [decide_eq_true b1, decide_eq_true b2] at hs
  by_cases c4 : H.c ≥ 0
  · have h1 := shad_of H
    rw [decide_eq_false (show ¬ H.c < 0 by omega)] at h1
    exact SunSides_g p t k w _ _ _ n L.e e0 c1 c2 c3 _ H.hc c4 h1 p0 p1 p2 hp hs
  · exact SunSides_f p t k w _ _ _ n L.e e0 c1 c2 c3 _ H.hc c4 p0 p1 p2 hp hs
end Go.Proofs.Ytnfaafdoefpomaa
