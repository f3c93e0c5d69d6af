/-
  The walks of the law FieldThere, for the seat YtmhcfkcpoecokaaDoor. (Made by mkfield.py.)
-/
import Derived.Test.YtmhcfkcpoecokaaDoorJU
import Derived.Test.YtmhcfkcpoecokaaDoorGSky
import Derived.Handy
import Derived.Deep.RegionHeld3
namespace Go.Proofs.YtmhcfkcpoecokaaDoor
open Go.RowKit

set_option maxRecDepth 100000 in
set_option maxHeartbeats 4000000 in
theorem FieldThere_a (p : V3) (t : Int) (w : World) (hG0 : Arr 0 (row 54 at0) w) (hG1 : Arr 1 (row 10 yr0) w) (r : Int) (hr : vNormS false p = (r, true)) :
    Calls Tryd.prog 6 #[.agg #[.int .i64 p.1, .int .i64 p.2.1, .int .i64 p.2.2], .int .i64 t] w fun e w' => e = .returned (.bool true) ∧ Below w.heap.size w w' := by
  have l_0 := hG0.lies
  have l_1 := hG1.lies
  go_enter Tryd.func6, Tryd.ntmps6
  have y1_G0 : 0 < w.heap.size := hG0.lies
  have y1_G1 : 1 < w.heap.size := hG1.lies
  have y1_low : w.heap.size ≤ w.heap.size := (Below.refl w.heap.size w).size
  go_wp2_with fail
  refine (awake_any  _ (hG0.alloc _) (hG1.alloc _)).mono ?_
  rintro e w1 ⟨rfl, k1⟩
  have K1 : Below w.heap.size w w1 := bel_then (bel_al (Below.refl w.heap.size w) _) k1
  have G0_1 : Arr 0 (row 54 at0) w1 := (hG0.alloc _).below k1
  have G1_1 : Arr 1 (row 10 yr0) w1 := (hG1.alloc _).below k1
  have B0_1 : Arr w.heap.size [.int .i64 p.1, .int .i64 p.2.1, .int .i64 p.2.2] w1 := (Arr_at _ _ [.int .i64 p.1, .int .i64 p.2.1, .int .i64 p.2.2] _ (by simp)).below k1
  have z1 := B0_1.lies
  clear hG0 hG1 k1
  have y2_G0 : 0 < w1.heap.size := G0_1.lies
  have y2_G1 : 1 < w1.heap.size := G1_1.lies
  have y2_B0 : w.heap.size < w1.heap.size := B0_1.lies
  have y2_low : w.heap.size ≤ w1.heap.size := K1.size
  have c2_B0_0 : w1.cell? ⟨w.heap.size, 0, none⟩ = some (.int .i64 p.1) := B0_1.c 0 (of_decide_eq_true rfl)
  have c2_B0_1 : w1.cell? ⟨w.heap.size, 1, none⟩ = some (.int .i64 p.2.1) := B0_1.c 1 (of_decide_eq_true rfl)
  have c2_B0_2 : w1.cell? ⟨w.heap.size, 2, none⟩ = some (.int .i64 p.2.2) := B0_1.c 2 (of_decide_eq_true rfl)
  have l2_B0 := B0_1.lies
  go_wp2_with fail
  refine (vNorm_any w1.heap.size false p _ (Fl_at _ _ _ _ (by simp))).mono ?_
  rintro e w2 ⟨rfl, f2, k2⟩
  rw [hr] at f2 ⊢
  dsimp only at f2 ⊢
  have K2 : Below w.heap.size w w2 := k2.on (bel_al K1 _) (by omega)
  have G0_2 : Arr 0 (row 54 at0) w2 := (G0_1.alloc _).kept k2 (Nat.ne_of_lt y2_G0)
  have G1_2 : Arr 1 (row 10 yr0) w2 := (G1_1.alloc _).kept k2 (Nat.ne_of_lt y2_G1)
  have B0_2 : Arr w.heap.size [.int .i64 p.1, .int .i64 p.2.1, .int .i64 p.2.2] w2 := (B0_1.alloc _).kept k2 (Nat.ne_of_lt y2_B0)
  have z2 := f2.lies
  clear c2_B0_0 c2_B0_1 c2_B0_2 l2_B0 K1 G0_1 G1_1 B0_1 k2
  have c3_B1 := f2.cell
  go_wp2
  clear c3_B1
  go_ret
  exact ⟨rfl, K2⟩
set_option maxRecDepth 100000 in
set_option maxHeartbeats 4000000 in
theorem FieldThere_b (p : V3) (t : Int) (w : World) (hG0 : Arr 0 (row 54 at0) w) (hG1 : Arr 1 (row 10 yr0) w) (r : Int) (hr : vNormS false p = (r, false)) (c1 : r < 7012835795048) :
    Calls Tryd.prog 6 #[.agg #[.int .i64 p.1, .int .i64 p.2.1, .int .i64 p.2.2], .int .i64 t] w fun e w' => e = .returned (.bool true) ∧ Below w.heap.size w w' := by
  have l_0 := hG0.lies
  have l_1 := hG1.lies
  go_enter Tryd.func6, Tryd.ntmps6
  have y1_G0 : 0 < w.heap.size := hG0.lies
  have y1_G1 : 1 < w.heap.size := hG1.lies
  have y1_low : w.heap.size ≤ w.heap.size := (Below.refl w.heap.size w).size
  go_wp2_with fail
  refine (awake_any  _ (hG0.alloc _) (hG1.alloc _)).mono ?_
  rintro e w1 ⟨rfl, k1⟩
  have K1 : Below w.heap.size w w1 := bel_then (bel_al (Below.refl w.heap.size w) _) k1
  have G0_1 : Arr 0 (row 54 at0) w1 := (hG0.alloc _).below k1
  have G1_1 : Arr 1 (row 10 yr0) w1 := (hG1.alloc _).below k1
  have B0_1 : Arr w.heap.size [.int .i64 p.1, .int .i64 p.2.1, .int .i64 p.2.2] w1 := (Arr_at _ _ [.int .i64 p.1, .int .i64 p.2.1, .int .i64 p.2.2] _ (by simp)).below k1
  have z1 := B0_1.lies
  clear hG0 hG1 k1
  have y2_G0 : 0 < w1.heap.size := G0_1.lies
  have y2_G1 : 1 < w1.heap.size := G1_1.lies
  have y2_B0 : w.heap.size < w1.heap.size := B0_1.lies
  have y2_low : w.heap.size ≤ w1.heap.size := K1.size
  have c2_B0_0 : w1.cell? ⟨w.heap.size, 0, none⟩ = some (.int .i64 p.1) := B0_1.c 0 (of_decide_eq_true rfl)
  have c2_B0_1 : w1.cell? ⟨w.heap.size, 1, none⟩ = some (.int .i64 p.2.1) := B0_1.c 1 (of_decide_eq_true rfl)
  have c2_B0_2 : w1.cell? ⟨w.heap.size, 2, none⟩ = some (.int .i64 p.2.2) := B0_1.c 2 (of_decide_eq_true rfl)
  have l2_B0 := B0_1.lies
  go_wp2_with fail
  refine (vNorm_any w1.heap.size false p _ (Fl_at _ _ _ _ (by simp))).mono ?_
  rintro e w2 ⟨rfl, f2, k2⟩
  rw [hr] at f2 ⊢
  dsimp only at f2 ⊢
  have K2 : Below w.heap.size w w2 := k2.on (bel_al K1 _) (by omega)
  have G0_2 : Arr 0 (row 54 at0) w2 := (G0_1.alloc _).kept k2 (Nat.ne_of_lt y2_G0)
  have G1_2 : Arr 1 (row 10 yr0) w2 := (G1_1.alloc _).kept k2 (Nat.ne_of_lt y2_G1)
  have B0_2 : Arr w.heap.size [.int .i64 p.1, .int .i64 p.2.1, .int .i64 p.2.2] w2 := (B0_1.alloc _).kept k2 (Nat.ne_of_lt y2_B0)
  have z2 := f2.lies
  clear c2_B0_0 c2_B0_1 c2_B0_2 l2_B0 K1 G0_1 G1_1 B0_1 k2
  have c3_B1 := f2.cell
  go_wp2
  clear c3_B1
  go_ret
  exact ⟨rfl, K2⟩
set_option maxRecDepth 100000 in
set_option maxHeartbeats 4000000 in
theorem FieldThere_c (p : V3) (t : Int) (w : World) (hG0 : Arr 0 (row 54 at0) w) (hG1 : Arr 1 (row 10 yr0) w) (r : Int) (hr : vNormS false p = (r, false)) (c1 : ¬ r < 7012835795048) (c2 : r > 9211859050600) :
    Calls Tryd.prog 6 #[.agg #[.int .i64 p.1, .int .i64 p.2.1, .int .i64 p.2.2], .int .i64 t] w fun e w' => e = .returned (.bool true) ∧ Below w.heap.size w w' := by
  have l_0 := hG0.lies
  have l_1 := hG1.lies
  go_enter Tryd.func6, Tryd.ntmps6
  have y1_G0 : 0 < w.heap.size := hG0.lies
  have y1_G1 : 1 < w.heap.size := hG1.lies
  have y1_low : w.heap.size ≤ w.heap.size := (Below.refl w.heap.size w).size
  go_wp2_with fail
  refine (awake_any  _ (hG0.alloc _) (hG1.alloc _)).mono ?_
  rintro e w1 ⟨rfl, k1⟩
  have K1 : Below w.heap.size w w1 := bel_then (bel_al (Below.refl w.heap.size w) _) k1
  have G0_1 : Arr 0 (row 54 at0) w1 := (hG0.alloc _).below k1
  have G1_1 : Arr 1 (row 10 yr0) w1 := (hG1.alloc _).below k1
  have B0_1 : Arr w.heap.size [.int .i64 p.1, .int .i64 p.2.1, .int .i64 p.2.2] w1 := (Arr_at _ _ [.int .i64 p.1, .int .i64 p.2.1, .int .i64 p.2.2] _ (by simp)).below k1
  have z1 := B0_1.lies
  clear hG0 hG1 k1
  have y2_G0 : 0 < w1.heap.size := G0_1.lies
  have y2_G1 : 1 < w1.heap.size := G1_1.lies
  have y2_B0 : w.heap.size < w1.heap.size := B0_1.lies
  have y2_low : w.heap.size ≤ w1.heap.size := K1.size
  have c2_B0_0 : w1.cell? ⟨w.heap.size, 0, none⟩ = some (.int .i64 p.1) := B0_1.c 0 (of_decide_eq_true rfl)
  have c2_B0_1 : w1.cell? ⟨w.heap.size, 1, none⟩ = some (.int .i64 p.2.1) := B0_1.c 1 (of_decide_eq_true rfl)
  have c2_B0_2 : w1.cell? ⟨w.heap.size, 2, none⟩ = some (.int .i64 p.2.2) := B0_1.c 2 (of_decide_eq_true rfl)
  have l2_B0 := B0_1.lies
  go_wp2_with fail
  refine (vNorm_any w1.heap.size false p _ (Fl_at _ _ _ _ (by simp))).mono ?_
  rintro e w2 ⟨rfl, f2, k2⟩
  rw [hr] at f2 ⊢
  dsimp only at f2 ⊢
  have K2 : Below w.heap.size w w2 := k2.on (bel_al K1 _) (by omega)
  have G0_2 : Arr 0 (row 54 at0) w2 := (G0_1.alloc _).kept k2 (Nat.ne_of_lt y2_G0)
  have G1_2 : Arr 1 (row 10 yr0) w2 := (G1_1.alloc _).kept k2 (Nat.ne_of_lt y2_G1)
  have B0_2 : Arr w.heap.size [.int .i64 p.1, .int .i64 p.2.1, .int .i64 p.2.2] w2 := (B0_1.alloc _).kept k2 (Nat.ne_of_lt y2_B0)
  have z2 := f2.lies
  clear c2_B0_0 c2_B0_1 c2_B0_2 l2_B0 K1 G0_1 G1_1 B0_1 k2
  have c3_B1 := f2.cell
  go_wp2
  clear c3_B1
  go_ret
  exact ⟨rfl, K2⟩
set_option maxRecDepth 100000 in
set_option maxHeartbeats 4000000 in
theorem FieldThere_d (p : V3) (t : Int) (w : World) (hG0 : Arr 0 (row 54 at0) w) (hG1 : Arr 1 (row 10 yr0) w) (r : Int) (hr : vNormS false p = (r, false)) (c1 : ¬ r < 7012835795048) (c2 : ¬ r > 9211859050600) (c3 : t < 0) :
    Calls Tryd.prog 6 #[.agg #[.int .i64 p.1, .int .i64 p.2.1, .int .i64 p.2.2], .int .i64 t] w fun e w' => e = .returned (.bool true) ∧ Below w.heap.size w w' := by
  have l_0 := hG0.lies
  have l_1 := hG1.lies
  go_enter Tryd.func6, Tryd.ntmps6
  have y1_G0 : 0 < w.heap.size := hG0.lies
  have y1_G1 : 1 < w.heap.size := hG1.lies
  have y1_low : w.heap.size ≤ w.heap.size := (Below.refl w.heap.size w).size
  go_wp2_with fail
  refine (awake_any  _ (hG0.alloc _) (hG1.alloc _)).mono ?_
  rintro e w1 ⟨rfl, k1⟩
  have K1 : Below w.heap.size w w1 := bel_then (bel_al (Below.refl w.heap.size w) _) k1
  have G0_1 : Arr 0 (row 54 at0) w1 := (hG0.alloc _).below k1
  have G1_1 : Arr 1 (row 10 yr0) w1 := (hG1.alloc _).below k1
  have B0_1 : Arr w.heap.size [.int .i64 p.1, .int .i64 p.2.1, .int .i64 p.2.2] w1 := (Arr_at _ _ [.int .i64 p.1, .int .i64 p.2.1, .int .i64 p.2.2] _ (by simp)).below k1
  have z1 := B0_1.lies
  clear hG0 hG1 k1
  have y2_G0 : 0 < w1.heap.size := G0_1.lies
  have y2_G1 : 1 < w1.heap.size := G1_1.lies
  have y2_B0 : w.heap.size < w1.heap.size := B0_1.lies
  have y2_low : w.heap.size ≤ w1.heap.size := K1.size
  have c2_B0_0 : w1.cell? ⟨w.heap.size, 0, none⟩ = some (.int .i64 p.1) := B0_1.c 0 (of_decide_eq_true rfl)
  have c2_B0_1 : w1.cell? ⟨w.heap.size, 1, none⟩ = some (.int .i64 p.2.1) := B0_1.c 1 (of_decide_eq_true rfl)
  have c2_B0_2 : w1.cell? ⟨w.heap.size, 2, none⟩ = some (.int .i64 p.2.2) := B0_1.c 2 (of_decide_eq_true rfl)
  have l2_B0 := B0_1.lies
  go_wp2_with fail
  refine (vNorm_any w1.heap.size false p _ (Fl_at _ _ _ _ (by simp))).mono ?_
  rintro e w2 ⟨rfl, f2, k2⟩
  rw [hr] at f2 ⊢
  dsimp only at f2 ⊢
  have K2 : Below w.heap.size w w2 := k2.on (bel_al K1 _) (by omega)
  have G0_2 : Arr 0 (row 54 at0) w2 := (G0_1.alloc _).kept k2 (Nat.ne_of_lt y2_G0)
  have G1_2 : Arr 1 (row 10 yr0) w2 := (G1_1.alloc _).kept k2 (Nat.ne_of_lt y2_G1)
  have B0_2 : Arr w.heap.size [.int .i64 p.1, .int .i64 p.2.1, .int .i64 p.2.2] w2 := (B0_1.alloc _).kept k2 (Nat.ne_of_lt y2_B0)
  have z2 := f2.lies
  clear c2_B0_0 c2_B0_1 c2_B0_2 l2_B0 K1 G0_1 G1_1 B0_1 k2
  have c3_B1 := f2.cell
  go_wp2
  clear c3_B1
  go_ret
  exact ⟨rfl, K2⟩
set_option maxRecDepth 100000 in
set_option maxHeartbeats 4000000 in
theorem FieldThere_e (p : V3) (t : Int) (w : World) (hG0 : Arr 0 (row 54 at0) w) (hG1 : Arr 1 (row 10 yr0) w) (r : Int) (hr : vNormS false p = (r, false)) (c1 : ¬ r < 7012835795048) (c2 : ¬ r > 9211859050600) (c3 : ¬ t < 0) (c4 : t > 157766400000) :
    Calls Tryd.prog 6 #[.agg #[.int .i64 p.1, .int .i64 p.2.1, .int .i64 p.2.2], .int .i64 t] w fun e w' => e = .returned (.bool true) ∧ Below w.heap.size w w' := by
  have l_0 := hG0.lies
  have l_1 := hG1.lies
  go_enter Tryd.func6, Tryd.ntmps6
  have y1_G0 : 0 < w.heap.size := hG0.lies
  have y1_G1 : 1 < w.heap.size := hG1.lies
  have y1_low : w.heap.size ≤ w.heap.size := (Below.refl w.heap.size w).size
  go_wp2_with fail
  refine (awake_any  _ (hG0.alloc _) (hG1.alloc _)).mono ?_
  rintro e w1 ⟨rfl, k1⟩
  have K1 : Below w.heap.size w w1 := bel_then (bel_al (Below.refl w.heap.size w) _) k1
  have G0_1 : Arr 0 (row 54 at0) w1 := (hG0.alloc _).below k1
  have G1_1 : Arr 1 (row 10 yr0) w1 := (hG1.alloc _).below k1
  have B0_1 : Arr w.heap.size [.int .i64 p.1, .int .i64 p.2.1, .int .i64 p.2.2] w1 := (Arr_at _ _ [.int .i64 p.1, .int .i64 p.2.1, .int .i64 p.2.2] _ (by simp)).below k1
  have z1 := B0_1.lies
  clear hG0 hG1 k1
  have y2_G0 : 0 < w1.heap.size := G0_1.lies
  have y2_G1 : 1 < w1.heap.size := G1_1.lies
  have y2_B0 : w.heap.size < w1.heap.size := B0_1.lies
  have y2_low : w.heap.size ≤ w1.heap.size := K1.size
  have c2_B0_0 : w1.cell? ⟨w.heap.size, 0, none⟩ = some (.int .i64 p.1) := B0_1.c 0 (of_decide_eq_true rfl)
  have c2_B0_1 : w1.cell? ⟨w.heap.size, 1, none⟩ = some (.int .i64 p.2.1) := B0_1.c 1 (of_decide_eq_true rfl)
  have c2_B0_2 : w1.cell? ⟨w.heap.size, 2, none⟩ = some (.int .i64 p.2.2) := B0_1.c 2 (of_decide_eq_true rfl)
  have l2_B0 := B0_1.lies
  go_wp2_with fail
  refine (vNorm_any w1.heap.size false p _ (Fl_at _ _ _ _ (by simp))).mono ?_
  rintro e w2 ⟨rfl, f2, k2⟩
  rw [hr] at f2 ⊢
  dsimp only at f2 ⊢
  have K2 : Below w.heap.size w w2 := k2.on (bel_al K1 _) (by omega)
  have G0_2 : Arr 0 (row 54 at0) w2 := (G0_1.alloc _).kept k2 (Nat.ne_of_lt y2_G0)
  have G1_2 : Arr 1 (row 10 yr0) w2 := (G1_1.alloc _).kept k2 (Nat.ne_of_lt y2_G1)
  have B0_2 : Arr w.heap.size [.int .i64 p.1, .int .i64 p.2.1, .int .i64 p.2.2] w2 := (B0_1.alloc _).kept k2 (Nat.ne_of_lt y2_B0)
  have z2 := f2.lies
  clear c2_B0_0 c2_B0_1 c2_B0_2 l2_B0 K1 G0_1 G1_1 B0_1 k2
  have c3_B1 := f2.cell
  go_wp2
  clear c3_B1
  go_ret
  exact ⟨rfl, K2⟩
set_option maxRecDepth 100000 in
set_option maxHeartbeats 4000000 in
theorem FieldThere_in (p : V3) (t : Int) (w : World) (hG0 : Arr 0 (row 54 at0) w) (hG1 : Arr 1 (row 10 yr0) w) (r : Int) (hr : vNormS false p = (r, false)) (c1 : ¬ r < 7012835795048) (c2 : ¬ r > 9211859050600) (c3 : ¬ t < 0) (c4 : ¬ t > 157766400000) (x y z n : Int) (hs : skyS false p t = ((x, y, z), false)) (hn : vNormS false (x, y, z) = (n, false)) (n0 : n ≥ 3298534883328) (n1 : n ≤ 98956046499840) :
    Calls Tryd.prog 6 #[.agg #[.int .i64 p.1, .int .i64 p.2.1, .int .i64 p.2.2], .int .i64 t] w fun e w' => e = .returned (.bool true) ∧ Below w.heap.size w w' := by
  have l_0 := hG0.lies
  have l_1 := hG1.lies
  go_enter Tryd.func6, Tryd.ntmps6
  have y1_G0 : 0 < w.heap.size := hG0.lies
  have y1_G1 : 1 < w.heap.size := hG1.lies
  have y1_low : w.heap.size ≤ w.heap.size := (Below.refl w.heap.size w).size
  go_wp2_with fail
  refine (awake_any  _ (hG0.alloc _) (hG1.alloc _)).mono ?_
  rintro e w1 ⟨rfl, k1⟩
  have K1 : Below w.heap.size w w1 := bel_then (bel_al (Below.refl w.heap.size w) _) k1
  have G0_1 : Arr 0 (row 54 at0) w1 := (hG0.alloc _).below k1
  have G1_1 : Arr 1 (row 10 yr0) w1 := (hG1.alloc _).below k1
  have B0_1 : Arr w.heap.size [.int .i64 p.1, .int .i64 p.2.1, .int .i64 p.2.2] w1 := (Arr_at _ _ [.int .i64 p.1, .int .i64 p.2.1, .int .i64 p.2.2] _ (by simp)).below k1
  have z1 := B0_1.lies
  clear hG0 hG1 k1
  have y2_G0 : 0 < w1.heap.size := G0_1.lies
  have y2_G1 : 1 < w1.heap.size := G1_1.lies
  have y2_B0 : w.heap.size < w1.heap.size := B0_1.lies
  have y2_low : w.heap.size ≤ w1.heap.size := K1.size
  have c2_B0_0 : w1.cell? ⟨w.heap.size, 0, none⟩ = some (.int .i64 p.1) := B0_1.c 0 (of_decide_eq_true rfl)
  have c2_B0_1 : w1.cell? ⟨w.heap.size, 1, none⟩ = some (.int .i64 p.2.1) := B0_1.c 1 (of_decide_eq_true rfl)
  have c2_B0_2 : w1.cell? ⟨w.heap.size, 2, none⟩ = some (.int .i64 p.2.2) := B0_1.c 2 (of_decide_eq_true rfl)
  have l2_B0 := B0_1.lies
  go_wp2_with fail
  refine (vNorm_any w1.heap.size false p _ (Fl_at _ _ _ _ (by simp))).mono ?_
  rintro e w2 ⟨rfl, f2, k2⟩
  rw [hr] at f2 ⊢
  dsimp only at f2 ⊢
  have K2 : Below w.heap.size w w2 := k2.on (bel_al K1 _) (by omega)
  have G0_2 : Arr 0 (row 54 at0) w2 := (G0_1.alloc _).kept k2 (Nat.ne_of_lt y2_G0)
  have G1_2 : Arr 1 (row 10 yr0) w2 := (G1_1.alloc _).kept k2 (Nat.ne_of_lt y2_G1)
  have B0_2 : Arr w.heap.size [.int .i64 p.1, .int .i64 p.2.1, .int .i64 p.2.2] w2 := (B0_1.alloc _).kept k2 (Nat.ne_of_lt y2_B0)
  have z2 := f2.lies
  clear c2_B0_0 c2_B0_1 c2_B0_2 l2_B0 K1 G0_1 G1_1 B0_1 k2
  have c3_B0_0 : w2.cell? ⟨w.heap.size, 0, none⟩ = some (.int .i64 p.1) := B0_2.c 0 (of_decide_eq_true rfl)
  have c3_B0_1 : w2.cell? ⟨w.heap.size, 1, none⟩ = some (.int .i64 p.2.1) := B0_2.c 1 (of_decide_eq_true rfl)
  have c3_B0_2 : w2.cell? ⟨w.heap.size, 2, none⟩ = some (.int .i64 p.2.2) := B0_2.c 2 (of_decide_eq_true rfl)
  have c3_B1 := f2.cell
  go_wp2_with fail
  refine (sky_any w1.heap.size false p t _ f2 G0_2 G1_2 (by omega)).mono ?_
  rintro e w3 ⟨rfl, f3, k3⟩
  rw [hs] at f3 ⊢
  dsimp only at f3 ⊢
  have K3 : Below w.heap.size w w3 := k3.on K2 (by omega)
  have G0_3 : Arr 0 (row 54 at0) w3 := G0_2.kept k3 (Nat.ne_of_lt y2_G0)
  have G1_3 : Arr 1 (row 10 yr0) w3 := G1_2.kept k3 (Nat.ne_of_lt y2_G1)
  have B0_3 : Arr w.heap.size [.int .i64 p.1, .int .i64 p.2.1, .int .i64 p.2.2] w3 := B0_2.kept k3 (Nat.ne_of_lt y2_B0)
  have z3 := f3.lies
  clear c3_B0_0 c3_B0_1 c3_B0_2 c3_B1 K2 G0_2 G1_2 B0_2 f2 k3
  go_wp2_with fail
  refine (vNorm_any w1.heap.size false (x, y, z) _ f3).mono ?_
  rintro e w4 ⟨rfl, f4, k4⟩
  rw [hn] at f4 ⊢
  dsimp only at f4 ⊢
  have K4 : Below w.heap.size w w4 := k4.on K3 (by omega)
  have G0_4 : Arr 0 (row 54 at0) w4 := G0_3.kept k4 (Nat.ne_of_lt y2_G0)
  have G1_4 : Arr 1 (row 10 yr0) w4 := G1_3.kept k4 (Nat.ne_of_lt y2_G1)
  have B0_4 : Arr w.heap.size [.int .i64 p.1, .int .i64 p.2.1, .int .i64 p.2.2] w4 := B0_3.kept k4 (Nat.ne_of_lt y2_B0)
  have z4 := f4.lies
  clear K3 G0_3 G1_3 B0_3 f3 k4
  have c5_B1 := f4.cell
  go_wp2
  clear c5_B1
  go_ret
  exact ⟨rfl, K4⟩
end Go.Proofs.YtmhcfkcpoecokaaDoor
