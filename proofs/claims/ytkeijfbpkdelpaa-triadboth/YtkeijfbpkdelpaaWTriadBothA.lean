/-
  The walk of the law TriadBoth, for the seat Ytkeijfbpkdelpaa. (Made by mklaw05.py.)
-/
import Derived.Test.YtkeijfbpkdelpaaDAwake
import Derived.Test.YtkeijfbpkdelpaaDHelp
import Derived.Test.YtkeijfbpkdelpaaQTurn
import Derived.Test.YtkeijfbpkdelpaaQMul
import Derived.Test.YtkeijfbpkdelpaaQUnit
import Derived.Test.YtkeijfbpkdelpaaVParts
import Derived.Test.YtkeijfbpkdelpaaStop
import Derived.Handy
import Derived.Deep.RegionHeld3
namespace Go.Proofs.Ytkeijfbpkdelpaa
open Go.RowKit

set_option maxRecDepth 100000 in
set_option maxHeartbeats 4000000 in
theorem TriadBoth_q (q : V4) (p : V6) (w : World) (hq : qUnitS false q = ((0, 0, 0, 0), true)) :
    Calls Try.prog 6 #[.agg #[.int .i64 q.1, .int .i64 q.2.1, .int .i64 q.2.2.1, .int .i64 q.2.2.2], .agg #[.int .i64 p.1, .int .i64 p.2.1, .int .i64 p.2.2.1, .int .i64 p.2.2.2.1, .int .i64 p.2.2.2.2.1, .int .i64 p.2.2.2.2.2]] w fun e w' => e = .returned (.bool true) ∧ Below w.heap.size w w' := by
  go_enter Try.func6, Try.ntmps6
  have y32_low : w.heap.size ≤ w.heap.size := (Below.refl w.heap.size w).size
  have y33_B0 : w.heap.size < w.heap.size + 1 := (Nat.lt_succ_self _)
  have y33_low : w.heap.size ≤ w.heap.size + 1 := (Nat.le_succ_of_le (Below.refl w.heap.size w).size)
  go_wp2_with fail
  refine (awake_any  _).mono ?_
  rintro e w1 ⟨rfl, k1⟩
  have K1 : Below w.heap.size w w1 := bel_then (bel_al (bel_al (Below.refl w.heap.size w) _) _) k1
  have B0_1 : Arr w.heap.size [.int .i64 q.1, .int .i64 q.2.1, .int .i64 q.2.2.1, .int .i64 q.2.2.2] w1 := ((Arr_at _ _ [.int .i64 q.1, .int .i64 q.2.1, .int .i64 q.2.2.1, .int .i64 q.2.2.2] _ (by simp)).alloc _).below k1
  have B1_1 : Arr (w.heap.size + 1) [.int .i64 p.1, .int .i64 p.2.1, .int .i64 p.2.2.1, .int .i64 p.2.2.2.1, .int .i64 p.2.2.2.2.1, .int .i64 p.2.2.2.2.2] w1 := (Arr_at _ _ [.int .i64 p.1, .int .i64 p.2.1, .int .i64 p.2.2.1, .int .i64 p.2.2.2.1, .int .i64 p.2.2.2.2.1, .int .i64 p.2.2.2.2.2] _ (by simp)).below k1
  have z1 := B1_1.lies
  clear k1
  have y34_B0 : w.heap.size < w1.heap.size := B0_1.lies
  have y34_B1 : w.heap.size + 1 < w1.heap.size := B1_1.lies
  have y34_low : w.heap.size ≤ w1.heap.size := K1.size
  have c2_B0_0 : w1.cell? ⟨w.heap.size, 0, none⟩ = some (.int .i64 q.1) := B0_1.c 0 (of_decide_eq_true rfl)
  have c2_B0_1 : w1.cell? ⟨w.heap.size, 1, none⟩ = some (.int .i64 q.2.1) := B0_1.c 1 (of_decide_eq_true rfl)
  have c2_B0_2 : w1.cell? ⟨w.heap.size, 2, none⟩ = some (.int .i64 q.2.2.1) := B0_1.c 2 (of_decide_eq_true rfl)
  have c2_B0_3 : w1.cell? ⟨w.heap.size, 3, none⟩ = some (.int .i64 q.2.2.2) := B0_1.c 3 (of_decide_eq_true rfl)
  have l2_B0 := B0_1.lies
  go_wp2_with fail
  refine (qUnit_any w1.heap.size false q _ (Fl_at _ _ _ _ (by simp))).mono ?_
  rintro e w2 ⟨rfl, f2, k2⟩
  rw [hq] at f2 ⊢
  dsimp only at f2 ⊢
  have K2 : Below w.heap.size w w2 := k2.on (bel_al K1 _) (by omega)
  have B0_2 : Arr w.heap.size [.int .i64 q.1, .int .i64 q.2.1, .int .i64 q.2.2.1, .int .i64 q.2.2.2] w2 := (B0_1.alloc _).kept k2 (Nat.ne_of_lt y34_B0)
  have B1_2 : Arr (w.heap.size + 1) [.int .i64 p.1, .int .i64 p.2.1, .int .i64 p.2.2.1, .int .i64 p.2.2.2.1, .int .i64 p.2.2.2.2.1, .int .i64 p.2.2.2.2.2] w2 := (B1_1.alloc _).kept k2 (Nat.ne_of_lt y34_B1)
  have z2 := f2.lies
  clear c2_B0_0 c2_B0_1 c2_B0_2 c2_B0_3 l2_B0 K1 B0_1 B1_1 k2
  have y35_B0 : w.heap.size < w2.heap.size := B0_2.lies
  have y35_B1 : w.heap.size + 1 < w2.heap.size := B1_2.lies
  have y35_B2 : w1.heap.size < w2.heap.size := f2.lies
  have y35_low : w.heap.size ≤ w2.heap.size := K2.size
  have c3_B2 := f2.cell
  have l3_B2 := f2.lies
  go_wp2
  clear c3_B2 l3_B2
  go_ret
  exact ⟨rfl, (bel_al K2 _)⟩
set_option maxRecDepth 100000 in
set_option maxHeartbeats 4000000 in
theorem TriadBoth_l0 (q : V4) (p : V6) (w : World) (o0 o1 o2 o3 : Int) (hq : qUnitS false q = ((o0, o1, o2, o3), false)) (l0 : longS (p.1, p.2.1, p.2.2.1) = false) :
    Calls Try.prog 6 #[.agg #[.int .i64 q.1, .int .i64 q.2.1, .int .i64 q.2.2.1, .int .i64 q.2.2.2], .agg #[.int .i64 p.1, .int .i64 p.2.1, .int .i64 p.2.2.1, .int .i64 p.2.2.2.1, .int .i64 p.2.2.2.2.1, .int .i64 p.2.2.2.2.2]] w fun e w' => e = .returned (.bool true) ∧ Below w.heap.size w w' := by
  go_enter Try.func6, Try.ntmps6
  have y36_low : w.heap.size ≤ w.heap.size := (Below.refl w.heap.size w).size
  have y37_B0 : w.heap.size < w.heap.size + 1 := (Nat.lt_succ_self _)
  have y37_low : w.heap.size ≤ w.heap.size + 1 := (Nat.le_succ_of_le (Below.refl w.heap.size w).size)
  go_wp2_with fail
  refine (awake_any  _).mono ?_
  rintro e w1 ⟨rfl, k1⟩
  have K1 : Below w.heap.size w w1 := bel_then (bel_al (bel_al (Below.refl w.heap.size w) _) _) k1
  have B0_1 : Arr w.heap.size [.int .i64 q.1, .int .i64 q.2.1, .int .i64 q.2.2.1, .int .i64 q.2.2.2] w1 := ((Arr_at _ _ [.int .i64 q.1, .int .i64 q.2.1, .int .i64 q.2.2.1, .int .i64 q.2.2.2] _ (by simp)).alloc _).below k1
  have B1_1 : Arr (w.heap.size + 1) [.int .i64 p.1, .int .i64 p.2.1, .int .i64 p.2.2.1, .int .i64 p.2.2.2.1, .int .i64 p.2.2.2.2.1, .int .i64 p.2.2.2.2.2] w1 := (Arr_at _ _ [.int .i64 p.1, .int .i64 p.2.1, .int .i64 p.2.2.1, .int .i64 p.2.2.2.1, .int .i64 p.2.2.2.2.1, .int .i64 p.2.2.2.2.2] _ (by simp)).below k1
  have z1 := B1_1.lies
  clear k1
  have y38_B0 : w.heap.size < w1.heap.size := B0_1.lies
  have y38_B1 : w.heap.size + 1 < w1.heap.size := B1_1.lies
  have y38_low : w.heap.size ≤ w1.heap.size := K1.size
  have c2_B0_0 : w1.cell? ⟨w.heap.size, 0, none⟩ = some (.int .i64 q.1) := B0_1.c 0 (of_decide_eq_true rfl)
  have c2_B0_1 : w1.cell? ⟨w.heap.size, 1, none⟩ = some (.int .i64 q.2.1) := B0_1.c 1 (of_decide_eq_true rfl)
  have c2_B0_2 : w1.cell? ⟨w.heap.size, 2, none⟩ = some (.int .i64 q.2.2.1) := B0_1.c 2 (of_decide_eq_true rfl)
  have c2_B0_3 : w1.cell? ⟨w.heap.size, 3, none⟩ = some (.int .i64 q.2.2.2) := B0_1.c 3 (of_decide_eq_true rfl)
  have l2_B0 := B0_1.lies
  go_wp2_with fail
  refine (qUnit_any w1.heap.size false q _ (Fl_at _ _ _ _ (by simp))).mono ?_
  rintro e w2 ⟨rfl, f2, k2⟩
  rw [hq] at f2 ⊢
  dsimp only at f2 ⊢
  have K2 : Below w.heap.size w w2 := k2.on (bel_al K1 _) (by omega)
  have B0_2 : Arr w.heap.size [.int .i64 q.1, .int .i64 q.2.1, .int .i64 q.2.2.1, .int .i64 q.2.2.2] w2 := (B0_1.alloc _).kept k2 (Nat.ne_of_lt y38_B0)
  have B1_2 : Arr (w.heap.size + 1) [.int .i64 p.1, .int .i64 p.2.1, .int .i64 p.2.2.1, .int .i64 p.2.2.2.1, .int .i64 p.2.2.2.2.1, .int .i64 p.2.2.2.2.2] w2 := (B1_1.alloc _).kept k2 (Nat.ne_of_lt y38_B1)
  have z2 := f2.lies
  clear c2_B0_0 c2_B0_1 c2_B0_2 c2_B0_3 l2_B0 K1 B0_1 B1_1 k2
  have y39_B0 : w.heap.size < w2.heap.size := B0_2.lies
  have y39_B1 : w.heap.size + 1 < w2.heap.size := B1_2.lies
  have y39_B2 : w1.heap.size < w2.heap.size := f2.lies
  have y39_low : w.heap.size ≤ w2.heap.size := K2.size
  have c3_B1_0 : w2.cell? ⟨w.heap.size + 1, 0, none⟩ = some (.int .i64 p.1) := B1_2.c 0 (of_decide_eq_true rfl)
  have c3_B1_1 : w2.cell? ⟨w.heap.size + 1, 1, none⟩ = some (.int .i64 p.2.1) := B1_2.c 1 (of_decide_eq_true rfl)
  have c3_B1_2 : w2.cell? ⟨w.heap.size + 1, 2, none⟩ = some (.int .i64 p.2.2.1) := B1_2.c 2 (of_decide_eq_true rfl)
  have c3_B2 := f2.cell
  have l3_B1 := B1_2.lies
  have l3_B2 := f2.lies
  go_wp2_with fail
  refine (long_any (p.1, p.2.1, p.2.2.1) _).mono ?_
  rintro e w3 ⟨rfl, k3⟩
  rw [l0]
  try dsimp only
  have K3 : Below w.heap.size w w3 := bel_then (bel_al K2 _) k3
  have B0_3 : Arr w.heap.size [.int .i64 q.1, .int .i64 q.2.1, .int .i64 q.2.2.1, .int .i64 q.2.2.2] w3 := (B0_2.alloc _).below k3
  have B1_3 : Arr (w.heap.size + 1) [.int .i64 p.1, .int .i64 p.2.1, .int .i64 p.2.2.1, .int .i64 p.2.2.2.1, .int .i64 p.2.2.2.2.1, .int .i64 p.2.2.2.2.2] w3 := (B1_2.alloc _).below k3
  have B2_3 : Fl w1.heap.size false w3 := (f2.alloc _).below k3
  have B3_3 : Arr w2.heap.size [.int .i64 o0, .int .i64 o1, .int .i64 o2, .int .i64 o3] w3 := (Arr_at _ _ [.int .i64 o0, .int .i64 o1, .int .i64 o2, .int .i64 o3] _ (by simp)).below k3
  have z3 := B3_3.lies
  clear c3_B1_0 c3_B1_1 c3_B1_2 c3_B2 l3_B1 l3_B2 K2 B0_2 B1_2 f2 k3
  go_wp2
  go_ret
  exact ⟨rfl, K3⟩
set_option maxRecDepth 100000 in
set_option maxHeartbeats 4000000 in
theorem TriadBoth_l1 (q : V4) (p : V6) (w : World) (o0 o1 o2 o3 : Int) (hq : qUnitS false q = ((o0, o1, o2, o3), false)) (l0 : longS (p.1, p.2.1, p.2.2.1) = true) (l1 : longS p.2.2.2 = false) :
    Calls Try.prog 6 #[.agg #[.int .i64 q.1, .int .i64 q.2.1, .int .i64 q.2.2.1, .int .i64 q.2.2.2], .agg #[.int .i64 p.1, .int .i64 p.2.1, .int .i64 p.2.2.1, .int .i64 p.2.2.2.1, .int .i64 p.2.2.2.2.1, .int .i64 p.2.2.2.2.2]] w fun e w' => e = .returned (.bool true) ∧ Below w.heap.size w w' := by
  go_enter Try.func6, Try.ntmps6
  have y40_low : w.heap.size ≤ w.heap.size := (Below.refl w.heap.size w).size
  have y41_B0 : w.heap.size < w.heap.size + 1 := (Nat.lt_succ_self _)
  have y41_low : w.heap.size ≤ w.heap.size + 1 := (Nat.le_succ_of_le (Below.refl w.heap.size w).size)
  go_wp2_with fail
  refine (awake_any  _).mono ?_
  rintro e w1 ⟨rfl, k1⟩
  have K1 : Below w.heap.size w w1 := bel_then (bel_al (bel_al (Below.refl w.heap.size w) _) _) k1
  have B0_1 : Arr w.heap.size [.int .i64 q.1, .int .i64 q.2.1, .int .i64 q.2.2.1, .int .i64 q.2.2.2] w1 := ((Arr_at _ _ [.int .i64 q.1, .int .i64 q.2.1, .int .i64 q.2.2.1, .int .i64 q.2.2.2] _ (by simp)).alloc _).below k1
  have B1_1 : Arr (w.heap.size + 1) [.int .i64 p.1, .int .i64 p.2.1, .int .i64 p.2.2.1, .int .i64 p.2.2.2.1, .int .i64 p.2.2.2.2.1, .int .i64 p.2.2.2.2.2] w1 := (Arr_at _ _ [.int .i64 p.1, .int .i64 p.2.1, .int .i64 p.2.2.1, .int .i64 p.2.2.2.1, .int .i64 p.2.2.2.2.1, .int .i64 p.2.2.2.2.2] _ (by simp)).below k1
  have z1 := B1_1.lies
  clear k1
  have y42_B0 : w.heap.size < w1.heap.size := B0_1.lies
  have y42_B1 : w.heap.size + 1 < w1.heap.size := B1_1.lies
  have y42_low : w.heap.size ≤ w1.heap.size := K1.size
  have c2_B0_0 : w1.cell? ⟨w.heap.size, 0, none⟩ = some (.int .i64 q.1) := B0_1.c 0 (of_decide_eq_true rfl)
  have c2_B0_1 : w1.cell? ⟨w.heap.size, 1, none⟩ = some (.int .i64 q.2.1) := B0_1.c 1 (of_decide_eq_true rfl)
  have c2_B0_2 : w1.cell? ⟨w.heap.size, 2, none⟩ = some (.int .i64 q.2.2.1) := B0_1.c 2 (of_decide_eq_true rfl)
  have c2_B0_3 : w1.cell? ⟨w.heap.size, 3, none⟩ = some (.int .i64 q.2.2.2) := B0_1.c 3 (of_decide_eq_true rfl)
  have l2_B0 := B0_1.lies
  go_wp2_with fail
  refine (qUnit_any w1.heap.size false q _ (Fl_at _ _ _ _ (by simp))).mono ?_
  rintro e w2 ⟨rfl, f2, k2⟩
  rw [hq] at f2 ⊢
  dsimp only at f2 ⊢
  have K2 : Below w.heap.size w w2 := k2.on (bel_al K1 _) (by omega)
  have B0_2 : Arr w.heap.size [.int .i64 q.1, .int .i64 q.2.1, .int .i64 q.2.2.1, .int .i64 q.2.2.2] w2 := (B0_1.alloc _).kept k2 (Nat.ne_of_lt y42_B0)
  have B1_2 : Arr (w.heap.size + 1) [.int .i64 p.1, .int .i64 p.2.1, .int .i64 p.2.2.1, .int .i64 p.2.2.2.1, .int .i64 p.2.2.2.2.1, .int .i64 p.2.2.2.2.2] w2 := (B1_1.alloc _).kept k2 (Nat.ne_of_lt y42_B1)
  have z2 := f2.lies
  clear c2_B0_0 c2_B0_1 c2_B0_2 c2_B0_3 l2_B0 K1 B0_1 B1_1 k2
  have y43_B0 : w.heap.size < w2.heap.size := B0_2.lies
  have y43_B1 : w.heap.size + 1 < w2.heap.size := B1_2.lies
  have y43_B2 : w1.heap.size < w2.heap.size := f2.lies
  have y43_low : w.heap.size ≤ w2.heap.size := K2.size
  have c3_B1_0 : w2.cell? ⟨w.heap.size + 1, 0, none⟩ = some (.int .i64 p.1) := B1_2.c 0 (of_decide_eq_true rfl)
  have c3_B1_1 : w2.cell? ⟨w.heap.size + 1, 1, none⟩ = some (.int .i64 p.2.1) := B1_2.c 1 (of_decide_eq_true rfl)
  have c3_B1_2 : w2.cell? ⟨w.heap.size + 1, 2, none⟩ = some (.int .i64 p.2.2.1) := B1_2.c 2 (of_decide_eq_true rfl)
  have c3_B2 := f2.cell
  have l3_B1 := B1_2.lies
  have l3_B2 := f2.lies
  go_wp2_with fail
  refine (long_any (p.1, p.2.1, p.2.2.1) _).mono ?_
  rintro e w3 ⟨rfl, k3⟩
  rw [l0]
  try dsimp only
  have K3 : Below w.heap.size w w3 := bel_then (bel_al K2 _) k3
  have B0_3 : Arr w.heap.size [.int .i64 q.1, .int .i64 q.2.1, .int .i64 q.2.2.1, .int .i64 q.2.2.2] w3 := (B0_2.alloc _).below k3
  have B1_3 : Arr (w.heap.size + 1) [.int .i64 p.1, .int .i64 p.2.1, .int .i64 p.2.2.1, .int .i64 p.2.2.2.1, .int .i64 p.2.2.2.2.1, .int .i64 p.2.2.2.2.2] w3 := (B1_2.alloc _).below k3
  have B2_3 : Fl w1.heap.size false w3 := (f2.alloc _).below k3
  have B3_3 : Arr w2.heap.size [.int .i64 o0, .int .i64 o1, .int .i64 o2, .int .i64 o3] w3 := (Arr_at _ _ [.int .i64 o0, .int .i64 o1, .int .i64 o2, .int .i64 o3] _ (by simp)).below k3
  have z3 := B3_3.lies
  clear c3_B1_0 c3_B1_1 c3_B1_2 c3_B2 l3_B1 l3_B2 K2 B0_2 B1_2 f2 k3
  have c4_B1_3 : w3.cell? ⟨w.heap.size + 1, 3, none⟩ = some (.int .i64 p.2.2.2.1) := B1_3.c 3 (of_decide_eq_true rfl)
  have c4_B1_4 : w3.cell? ⟨w.heap.size + 1, 4, none⟩ = some (.int .i64 p.2.2.2.2.1) := B1_3.c 4 (of_decide_eq_true rfl)
  have c4_B1_5 : w3.cell? ⟨w.heap.size + 1, 5, none⟩ = some (.int .i64 p.2.2.2.2.2) := B1_3.c 5 (of_decide_eq_true rfl)
  go_wp2_with fail
  refine (long_any p.2.2.2 _).mono ?_
  rintro e w4 ⟨rfl, k4⟩
  rw [l1]
  try dsimp only
  have K4 : Below w.heap.size w w4 := bel_then K3 k4
  have B0_4 : Arr w.heap.size [.int .i64 q.1, .int .i64 q.2.1, .int .i64 q.2.2.1, .int .i64 q.2.2.2] w4 := B0_3.below k4
  have B1_4 : Arr (w.heap.size + 1) [.int .i64 p.1, .int .i64 p.2.1, .int .i64 p.2.2.1, .int .i64 p.2.2.2.1, .int .i64 p.2.2.2.2.1, .int .i64 p.2.2.2.2.2] w4 := B1_3.below k4
  have B2_4 : Fl w1.heap.size false w4 := B2_3.below k4
  have B3_4 : Arr w2.heap.size [.int .i64 o0, .int .i64 o1, .int .i64 o2, .int .i64 o3] w4 := B3_3.below k4
  have z4 := B3_4.lies
  clear c4_B1_3 c4_B1_4 c4_B1_5 K3 B0_3 B1_3 B2_3 B3_3 k4
  go_wp2
  go_ret
  exact ⟨rfl, K4⟩
set_option maxRecDepth 100000 in
set_option maxHeartbeats 4000000 in
theorem TriadBoth_near (q : V4) (p : V6) (w : World) (o0 o1 o2 o3 : Int) (hq : qUnitS false q = ((o0, o1, o2, o3), false)) (l0 : longS (p.1, p.2.1, p.2.2.1) = true) (l1 : longS p.2.2.2 = true) (a0 a1 a2 b0 b1 b2 t0 t1 t2 y0 y1 y2 s0 s1 : Int) (ha : vUnitS false (p.1, p.2.1, p.2.2.1) = ((a0, a1, a2), false)) (hb : vUnitS false p.2.2.2 = ((b0, b1, b2), false)) (ht : qTurnS false (o0, o1, o2, o3) (a0, a1, a2) = ((t0, t1, t2), false)) (hy : qTurnS false (o0, o1, o2, o3) (b0, b1, b2) = ((y0, y1, y2), false)) (hs : vPartsS false (a0, a1, a2) (b0, b1, b2) = ((s0, s1), false)) (hc : s0 < 300000000000) :
    Calls Try.prog 6 #[.agg #[.int .i64 q.1, .int .i64 q.2.1, .int .i64 q.2.2.1, .int .i64 q.2.2.2], .agg #[.int .i64 p.1, .int .i64 p.2.1, .int .i64 p.2.2.1, .int .i64 p.2.2.2.1, .int .i64 p.2.2.2.2.1, .int .i64 p.2.2.2.2.2]] w fun e w' => e = .returned (.bool true) ∧ Below w.heap.size w w' := by
  go_enter Try.func6, Try.ntmps6
  have y44_low : w.heap.size ≤ w.heap.size := (Below.refl w.heap.size w).size
  have y45_B0 : w.heap.size < w.heap.size + 1 := (Nat.lt_succ_self _)
  have y45_low : w.heap.size ≤ w.heap.size + 1 := (Nat.le_succ_of_le (Below.refl w.heap.size w).size)
  go_wp2_with fail
  refine (awake_any  _).mono ?_
  rintro e w1 ⟨rfl, k1⟩
  have K1 : Below w.heap.size w w1 := bel_then (bel_al (bel_al (Below.refl w.heap.size w) _) _) k1
  have B0_1 : Arr w.heap.size [.int .i64 q.1, .int .i64 q.2.1, .int .i64 q.2.2.1, .int .i64 q.2.2.2] w1 := ((Arr_at _ _ [.int .i64 q.1, .int .i64 q.2.1, .int .i64 q.2.2.1, .int .i64 q.2.2.2] _ (by simp)).alloc _).below k1
  have B1_1 : Arr (w.heap.size + 1) [.int .i64 p.1, .int .i64 p.2.1, .int .i64 p.2.2.1, .int .i64 p.2.2.2.1, .int .i64 p.2.2.2.2.1, .int .i64 p.2.2.2.2.2] w1 := (Arr_at _ _ [.int .i64 p.1, .int .i64 p.2.1, .int .i64 p.2.2.1, .int .i64 p.2.2.2.1, .int .i64 p.2.2.2.2.1, .int .i64 p.2.2.2.2.2] _ (by simp)).below k1
  have z1 := B1_1.lies
  clear k1
  have y46_B0 : w.heap.size < w1.heap.size := B0_1.lies
  have y46_B1 : w.heap.size + 1 < w1.heap.size := B1_1.lies
  have y46_low : w.heap.size ≤ w1.heap.size := K1.size
  have c2_B0_0 : w1.cell? ⟨w.heap.size, 0, none⟩ = some (.int .i64 q.1) := B0_1.c 0 (of_decide_eq_true rfl)
  have c2_B0_1 : w1.cell? ⟨w.heap.size, 1, none⟩ = some (.int .i64 q.2.1) := B0_1.c 1 (of_decide_eq_true rfl)
  have c2_B0_2 : w1.cell? ⟨w.heap.size, 2, none⟩ = some (.int .i64 q.2.2.1) := B0_1.c 2 (of_decide_eq_true rfl)
  have c2_B0_3 : w1.cell? ⟨w.heap.size, 3, none⟩ = some (.int .i64 q.2.2.2) := B0_1.c 3 (of_decide_eq_true rfl)
  have l2_B0 := B0_1.lies
  go_wp2_with fail
  refine (qUnit_any w1.heap.size false q _ (Fl_at _ _ _ _ (by simp))).mono ?_
  rintro e w2 ⟨rfl, f2, k2⟩
  rw [hq] at f2 ⊢
  dsimp only at f2 ⊢
  have K2 : Below w.heap.size w w2 := k2.on (bel_al K1 _) (by omega)
  have B0_2 : Arr w.heap.size [.int .i64 q.1, .int .i64 q.2.1, .int .i64 q.2.2.1, .int .i64 q.2.2.2] w2 := (B0_1.alloc _).kept k2 (Nat.ne_of_lt y46_B0)
  have B1_2 : Arr (w.heap.size + 1) [.int .i64 p.1, .int .i64 p.2.1, .int .i64 p.2.2.1, .int .i64 p.2.2.2.1, .int .i64 p.2.2.2.2.1, .int .i64 p.2.2.2.2.2] w2 := (B1_1.alloc _).kept k2 (Nat.ne_of_lt y46_B1)
  have z2 := f2.lies
  clear c2_B0_0 c2_B0_1 c2_B0_2 c2_B0_3 l2_B0 K1 B0_1 B1_1 k2
  have y47_B0 : w.heap.size < w2.heap.size := B0_2.lies
  have y47_B1 : w.heap.size + 1 < w2.heap.size := B1_2.lies
  have y47_B2 : w1.heap.size < w2.heap.size := f2.lies
  have y47_low : w.heap.size ≤ w2.heap.size := K2.size
  have c3_B1_0 : w2.cell? ⟨w.heap.size + 1, 0, none⟩ = some (.int .i64 p.1) := B1_2.c 0 (of_decide_eq_true rfl)
  have c3_B1_1 : w2.cell? ⟨w.heap.size + 1, 1, none⟩ = some (.int .i64 p.2.1) := B1_2.c 1 (of_decide_eq_true rfl)
  have c3_B1_2 : w2.cell? ⟨w.heap.size + 1, 2, none⟩ = some (.int .i64 p.2.2.1) := B1_2.c 2 (of_decide_eq_true rfl)
  have c3_B2 := f2.cell
  have l3_B1 := B1_2.lies
  have l3_B2 := f2.lies
  go_wp2_with fail
  refine (long_any (p.1, p.2.1, p.2.2.1) _).mono ?_
  rintro e w3 ⟨rfl, k3⟩
  rw [l0]
  try dsimp only
  have K3 : Below w.heap.size w w3 := bel_then (bel_al K2 _) k3
  have B0_3 : Arr w.heap.size [.int .i64 q.1, .int .i64 q.2.1, .int .i64 q.2.2.1, .int .i64 q.2.2.2] w3 := (B0_2.alloc _).below k3
  have B1_3 : Arr (w.heap.size + 1) [.int .i64 p.1, .int .i64 p.2.1, .int .i64 p.2.2.1, .int .i64 p.2.2.2.1, .int .i64 p.2.2.2.2.1, .int .i64 p.2.2.2.2.2] w3 := (B1_2.alloc _).below k3
  have B2_3 : Fl w1.heap.size false w3 := (f2.alloc _).below k3
  have B3_3 : Arr w2.heap.size [.int .i64 o0, .int .i64 o1, .int .i64 o2, .int .i64 o3] w3 := (Arr_at _ _ [.int .i64 o0, .int .i64 o1, .int .i64 o2, .int .i64 o3] _ (by simp)).below k3
  have z3 := B3_3.lies
  clear c3_B1_0 c3_B1_1 c3_B1_2 c3_B2 l3_B1 l3_B2 K2 B0_2 B1_2 f2 k3
  have c4_B1_3 : w3.cell? ⟨w.heap.size + 1, 3, none⟩ = some (.int .i64 p.2.2.2.1) := B1_3.c 3 (of_decide_eq_true rfl)
  have c4_B1_4 : w3.cell? ⟨w.heap.size + 1, 4, none⟩ = some (.int .i64 p.2.2.2.2.1) := B1_3.c 4 (of_decide_eq_true rfl)
  have c4_B1_5 : w3.cell? ⟨w.heap.size + 1, 5, none⟩ = some (.int .i64 p.2.2.2.2.2) := B1_3.c 5 (of_decide_eq_true rfl)
  go_wp2_with fail
  refine (long_any p.2.2.2 _).mono ?_
  rintro e w4 ⟨rfl, k4⟩
  rw [l1]
  try dsimp only
  have K4 : Below w.heap.size w w4 := bel_then K3 k4
  have B0_4 : Arr w.heap.size [.int .i64 q.1, .int .i64 q.2.1, .int .i64 q.2.2.1, .int .i64 q.2.2.2] w4 := B0_3.below k4
  have B1_4 : Arr (w.heap.size + 1) [.int .i64 p.1, .int .i64 p.2.1, .int .i64 p.2.2.1, .int .i64 p.2.2.2.1, .int .i64 p.2.2.2.2.1, .int .i64 p.2.2.2.2.2] w4 := B1_3.below k4
  have B2_4 : Fl w1.heap.size false w4 := B2_3.below k4
  have B3_4 : Arr w2.heap.size [.int .i64 o0, .int .i64 o1, .int .i64 o2, .int .i64 o3] w4 := B3_3.below k4
  have z4 := B3_4.lies
  clear c4_B1_3 c4_B1_4 c4_B1_5 K3 B0_3 B1_3 B2_3 B3_3 k4
  go_wp2_with fail
  rename_i K0 aK0
  have cont1 : ∀ (W1 : World) (t1_15 t1_16 t1_17 t1_18 t1_19 t1_20 t1_21 t1_22 t1_23 t1_24 t1_25 t1_26 t1_27 t1_28 t1_29 t1_30 t1_31 t1_32 t1_33 t1_34 t1_35 t1_36 t1_37 t1_38 t1_39 t1_40 t1_41 t1_42 t1_43 t1_44 t1_45 : Value) (x1_0 : Nat) (x1_1 : Nat) , Below w.heap.size w W1 → Arr w.heap.size [.int .i64 q.1, .int .i64 q.2.1, .int .i64 q.2.2.1, .int .i64 q.2.2.2] W1 → Arr (w.heap.size + 1) [.int .i64 p.1, .int .i64 p.2.1, .int .i64 p.2.2.1, .int .i64 p.2.2.2.1, .int .i64 p.2.2.2.2.1, .int .i64 p.2.2.2.2.2] W1 → Fl w1.heap.size false W1 → Arr w2.heap.size [.int .i64 o0, .int .i64 o1, .int .i64 o2, .int .i64 o3] W1 → Arr x1_0 [.int .i64 a0, .int .i64 a1, .int .i64 a2] W1 → Arr x1_1 [.int .i64 b0, .int .i64 b1, .int .i64 b2] W1 → w.heap.size ≤ x1_0 → w.heap.size ≤ x1_1 → w.heap.size < x1_0 → w.heap.size + 1 < x1_0 → w1.heap.size < x1_0 → w2.heap.size < x1_0 → w.heap.size < x1_1 → w.heap.size + 1 < x1_1 → w1.heap.size < x1_1 → w2.heap.size < x1_1 → x1_0 ≠ x1_1 → K0 { tmps := #[.agg #[.int .i64 q.1, .int .i64 q.2.1, .int .i64 q.2.2.1, .int .i64 q.2.2.2], .agg #[.int .i64 p.1, .int .i64 p.2.1, .int .i64 p.2.2.1, .int .i64 p.2.2.2.1, .int .i64 p.2.2.2.2.1, .int .i64 p.2.2.2.2.2], .pointer (some ⟨w.heap.size, 0, none⟩), .pointer (some ⟨w.heap.size + 1, 0, none⟩), .bool false, .pointer (some ⟨w1.heap.size, 0, none⟩), .pointer (some ⟨w2.heap.size, 0, none⟩), .pointer (some ⟨x1_0, 0, none⟩), .pointer (some ⟨x1_1, 0, none⟩), undef, undef, undef, undef, undef, undef, t1_15, t1_16, t1_17, t1_18, t1_19, t1_20, t1_21, t1_22, t1_23, t1_24, t1_25, t1_26, t1_27, t1_28, t1_29, t1_30, t1_31, t1_32, t1_33, t1_34, t1_35, t1_36, t1_37, t1_38, t1_39, t1_40, t1_41, t1_42, t1_43, t1_44, t1_45, undef, undef, undef, undef, undef, undef, undef, undef, undef, undef, undef, undef, undef, undef, undef, undef, undef, undef, undef, undef, undef, undef, undef, undef, undef, undef, undef, undef, undef, undef, undef, undef, undef, undef, undef, undef, undef, undef, undef, undef, undef, undef, undef, undef, undef, undef, undef, undef, undef, undef], defers := [] } W1 := by
    intro W1 t1_15 t1_16 t1_17 t1_18 t1_19 t1_20 t1_21 t1_22 t1_23 t1_24 t1_25 t1_26 t1_27 t1_28 t1_29 t1_30 t1_31 t1_32 t1_33 t1_34 t1_35 t1_36 t1_37 t1_38 t1_39 t1_40 t1_41 t1_42 t1_43 t1_44 t1_45 x1_0 x1_1 KC1 B0_c1 B1_c1 B2_c1 B3_c1 B4_c1 B5_c1 s1_0 s1_1 s1_2 s1_3 s1_4 s1_5 s1_6 s1_7 s1_8 s1_9 s1_10
    have zc1_B0 := B0_c1.lies
    have zc1_B1 := B1_c1.lies
    have zc1_B2 := B2_c1.lies
    have zc1_B3 := B3_c1.lies
    have zc1_B4 := B4_c1.lies
    have zc1_B5 := B5_c1.lies
    apply aK0
    go_wp2_with fail
    rename_i K0 aK0
    have cont2 : ∀ (W2 : World) (t2_15 t2_16 t2_17 t2_18 t2_19 t2_20 t2_21 t2_22 t2_23 t2_24 t2_25 t2_26 t2_27 t2_28 t2_29 t2_30 t2_31 t2_32 t2_33 t2_34 t2_35 t2_36 t2_37 t2_38 t2_39 t2_40 t2_41 t2_42 t2_43 t2_44 t2_45 t2_46 t2_47 t2_48 t2_49 t2_50 t2_51 t2_52 t2_53 : Value) (x2_0 : Nat) (x2_1 : Nat) , Below w.heap.size w W2 → Arr w.heap.size [.int .i64 q.1, .int .i64 q.2.1, .int .i64 q.2.2.1, .int .i64 q.2.2.2] W2 → Arr (w.heap.size + 1) [.int .i64 p.1, .int .i64 p.2.1, .int .i64 p.2.2.1, .int .i64 p.2.2.2.1, .int .i64 p.2.2.2.2.1, .int .i64 p.2.2.2.2.2] W2 → Fl w1.heap.size false W2 → Arr w2.heap.size [.int .i64 o0, .int .i64 o1, .int .i64 o2, .int .i64 o3] W2 → Arr x1_0 [.int .i64 a0, .int .i64 a1, .int .i64 a2] W2 → Arr x1_1 [.int .i64 b0, .int .i64 b1, .int .i64 b2] W2 → Arr x2_0 [.int .i64 t0, .int .i64 t1, .int .i64 t2] W2 → Arr x2_1 [.int .i64 y0, .int .i64 y1, .int .i64 y2] W2 → w.heap.size ≤ x2_0 → w.heap.size ≤ x2_1 → w.heap.size < x2_0 → w.heap.size + 1 < x2_0 → w1.heap.size < x2_0 → w2.heap.size < x2_0 → x1_0 < x2_0 → x1_1 < x2_0 → w.heap.size < x2_1 → w.heap.size + 1 < x2_1 → w1.heap.size < x2_1 → w2.heap.size < x2_1 → x1_0 < x2_1 → x1_1 < x2_1 → x2_0 ≠ x2_1 → K0 { tmps := #[.agg #[.int .i64 q.1, .int .i64 q.2.1, .int .i64 q.2.2.1, .int .i64 q.2.2.2], .agg #[.int .i64 p.1, .int .i64 p.2.1, .int .i64 p.2.2.1, .int .i64 p.2.2.2.1, .int .i64 p.2.2.2.2.1, .int .i64 p.2.2.2.2.2], .pointer (some ⟨w.heap.size, 0, none⟩), .pointer (some ⟨w.heap.size + 1, 0, none⟩), .bool false, .pointer (some ⟨w1.heap.size, 0, none⟩), .pointer (some ⟨w2.heap.size, 0, none⟩), .pointer (some ⟨x1_0, 0, none⟩), .pointer (some ⟨x1_1, 0, none⟩), .pointer (some ⟨x2_0, 0, none⟩), .pointer (some ⟨x2_1, 0, none⟩), undef, undef, undef, undef, t2_15, t2_16, t2_17, t2_18, t2_19, t2_20, t2_21, t2_22, t2_23, t2_24, t2_25, t2_26, t2_27, t2_28, t2_29, t2_30, t2_31, t2_32, t2_33, t2_34, t2_35, t2_36, t2_37, t2_38, t2_39, t2_40, t2_41, t2_42, t2_43, t2_44, t2_45, t2_46, t2_47, t2_48, t2_49, t2_50, t2_51, t2_52, t2_53, undef, undef, undef, undef, undef, undef, undef, undef, undef, undef, undef, undef, undef, undef, undef, undef, undef, undef, undef, undef, undef, undef, undef, undef, undef, undef, undef, undef, undef, undef, undef, undef, undef, undef, undef, undef, undef, undef, undef, undef, undef, undef], defers := [] } W2 := by
      intro W2 t2_15 t2_16 t2_17 t2_18 t2_19 t2_20 t2_21 t2_22 t2_23 t2_24 t2_25 t2_26 t2_27 t2_28 t2_29 t2_30 t2_31 t2_32 t2_33 t2_34 t2_35 t2_36 t2_37 t2_38 t2_39 t2_40 t2_41 t2_42 t2_43 t2_44 t2_45 t2_46 t2_47 t2_48 t2_49 t2_50 t2_51 t2_52 t2_53 x2_0 x2_1 KC2 B0_c2 B1_c2 B2_c2 B3_c2 B4_c2 B5_c2 B6_c2 B7_c2 s2_0 s2_1 s2_2 s2_3 s2_4 s2_5 s2_6 s2_7 s2_8 s2_9 s2_10 s2_11 s2_12 s2_13 s2_14
      have zc2_B0 := B0_c2.lies
      have zc2_B1 := B1_c2.lies
      have zc2_B2 := B2_c2.lies
      have zc2_B3 := B3_c2.lies
      have zc2_B4 := B4_c2.lies
      have zc2_B5 := B5_c2.lies
      have zc2_B6 := B6_c2.lies
      have zc2_B7 := B7_c2.lies
      apply aK0
      have c7_B4_0 : W2.cell? ⟨x1_0, 0, none⟩ = some (.int .i64 a0) := B4_c2.c 0 (of_decide_eq_true rfl)
      have c7_B4_1 : W2.cell? ⟨x1_0, 1, none⟩ = some (.int .i64 a1) := B4_c2.c 1 (of_decide_eq_true rfl)
      have c7_B4_2 : W2.cell? ⟨x1_0, 2, none⟩ = some (.int .i64 a2) := B4_c2.c 2 (of_decide_eq_true rfl)
      have c7_B5_0 : W2.cell? ⟨x1_1, 0, none⟩ = some (.int .i64 b0) := B5_c2.c 0 (of_decide_eq_true rfl)
      have c7_B5_1 : W2.cell? ⟨x1_1, 1, none⟩ = some (.int .i64 b1) := B5_c2.c 1 (of_decide_eq_true rfl)
      have c7_B5_2 : W2.cell? ⟨x1_1, 2, none⟩ = some (.int .i64 b2) := B5_c2.c 2 (of_decide_eq_true rfl)
      go_wp2_with fail
      refine (vParts_any w1.heap.size false (a0, a1, a2) (b0, b1, b2) _ B2_c2).mono ?_
      rintro e w9 ⟨rfl, f9, k9⟩
      rw [hs] at f9 ⊢
      dsimp only at f9 ⊢
      have K9 : Below w.heap.size w w9 := k9.on KC2 (by omega)
      have B0_9 : Arr w.heap.size [.int .i64 q.1, .int .i64 q.2.1, .int .i64 q.2.2.1, .int .i64 q.2.2.2] w9 := B0_c2.kept k9 (Nat.ne_of_lt y46_B0)
      have B1_9 : Arr (w.heap.size + 1) [.int .i64 p.1, .int .i64 p.2.1, .int .i64 p.2.2.1, .int .i64 p.2.2.2.1, .int .i64 p.2.2.2.2.1, .int .i64 p.2.2.2.2.2] w9 := B1_c2.kept k9 (Nat.ne_of_lt y46_B1)
      have B3_9 : Arr w2.heap.size [.int .i64 o0, .int .i64 o1, .int .i64 o2, .int .i64 o3] w9 := B3_c2.kept k9 (Nat.ne_of_gt y47_B2)
      have B4_9 : Arr x1_0 [.int .i64 a0, .int .i64 a1, .int .i64 a2] w9 := B4_c2.kept k9 (Nat.ne_of_gt s1_4)
      have B5_9 : Arr x1_1 [.int .i64 b0, .int .i64 b1, .int .i64 b2] w9 := B5_c2.kept k9 (Nat.ne_of_gt s1_8)
      have B6_9 : Arr x2_0 [.int .i64 t0, .int .i64 t1, .int .i64 t2] w9 := B6_c2.kept k9 (Nat.ne_of_gt s2_4)
      have B7_9 : Arr x2_1 [.int .i64 y0, .int .i64 y1, .int .i64 y2] w9 := B7_c2.kept k9 (Nat.ne_of_gt s2_10)
      have z9 := B7_9.lies
      have z9_B4 := B4_9.lies
      have z9_B5 := B5_9.lies
      have z9_B6 := B6_9.lies
      clear c7_B4_0 c7_B4_1 c7_B4_2 c7_B5_0 c7_B5_1 c7_B5_2 B0_c2 B1_c2 B2_c2 B3_c2 B4_c2 B5_c2 B6_c2 B7_c2 k9
      have c8_B2 := f9.cell
      go_wp2
      clear c8_B2
      go_ret
      exact ⟨rfl, K9⟩
    refine wp_region_held_drew (S := fun w' => Arr w2.heap.size [.int .i64 o0, .int .i64 o1, .int .i64 o2, .int .i64 o3] w' ∧ Arr x1_0 [.int .i64 a0, .int .i64 a1, .int .i64 a2] w' ∧ Arr x1_1 [.int .i64 b0, .int .i64 b1, .int .i64 b2] w') (by kernel_rfl) ⟨B3_c1.drew, B4_c1.drew, B5_c1.drew⟩ (fun hHeld => ?_)
    refine take_at (i := 0) (v := ?v1) rfl (by kernel_rfl) (by kernel_rfl) (by kernel_rfl) (fun _ _ _ h => h) (Or.inl ⟨by rfl, ?y1⟩) hHeld ?t1
    case y1 => (intro wx hSw; go_simp <;> with_reducible rfl)
    simp only [Act.put, List.setIfInBounds_toArray, List.set_cons_zero, List.set_cons_succ]
    refine take_at (i := 1) (v := ?v2) rfl (by kernel_rfl) (by kernel_rfl) (by kernel_rfl) (fun _ _ _ h => h) (Or.inl ⟨by rfl, ?y2⟩) hHeld ?t2
    case y2 => (intro wx hSw; have hc0 : wx.cell? ⟨w2.heap.size, 0, none⟩ = some (.int .i64 o0) := hSw.1.c 0 (of_decide_eq_true rfl); have hc1 : wx.cell? ⟨w2.heap.size, 1, none⟩ = some (.int .i64 o1) := hSw.1.c 1 (of_decide_eq_true rfl); have hc2 : wx.cell? ⟨w2.heap.size, 2, none⟩ = some (.int .i64 o2) := hSw.1.c 2 (of_decide_eq_true rfl); have hc3 : wx.cell? ⟨w2.heap.size, 3, none⟩ = some (.int .i64 o3) := hSw.1.c 3 (of_decide_eq_true rfl); go_simp <;> with_reducible rfl)
    simp only [Act.put, List.setIfInBounds_toArray, List.set_cons_zero, List.set_cons_succ]
    refine take_at (i := 2) (v := ?v3) rfl (by kernel_rfl) (by kernel_rfl) (by kernel_rfl) (fun _ _ _ h => h) (Or.inl ⟨by rfl, ?y3⟩) hHeld ?t3
    case y3 => (intro wx hSw; have hc0 : wx.cell? ⟨x1_0, 0, none⟩ = some (.int .i64 a0) := hSw.2.1.c 0 (of_decide_eq_true rfl); have hc1 : wx.cell? ⟨x1_0, 1, none⟩ = some (.int .i64 a1) := hSw.2.1.c 1 (of_decide_eq_true rfl); have hc2 : wx.cell? ⟨x1_0, 2, none⟩ = some (.int .i64 a2) := hSw.2.1.c 2 (of_decide_eq_true rfl); go_simp <;> with_reducible rfl)
    simp only [Act.put, List.setIfInBounds_toArray, List.set_cons_zero, List.set_cons_succ]
    refine take_at (i := 4) (v := ?v4) rfl (by kernel_rfl) (by kernel_rfl) (by kernel_rfl) (fun _ _ _ h => h) (Or.inl ⟨by rfl, ?y4⟩) hHeld ?t4
    case y4 => (intro wx hSw; go_simp <;> with_reducible rfl)
    simp only [Act.put, List.setIfInBounds_toArray, List.set_cons_zero, List.set_cons_succ]
    refine take_at (i := 5) (v := ?v5) rfl (by kernel_rfl) (by kernel_rfl) (by kernel_rfl) (fun _ _ _ h => h) (Or.inl ⟨by rfl, ?y5⟩) hHeld ?t5
    case y5 => (intro wx hSw; have hc0 : wx.cell? ⟨w2.heap.size, 0, none⟩ = some (.int .i64 o0) := hSw.1.c 0 (of_decide_eq_true rfl); have hc1 : wx.cell? ⟨w2.heap.size, 1, none⟩ = some (.int .i64 o1) := hSw.1.c 1 (of_decide_eq_true rfl); have hc2 : wx.cell? ⟨w2.heap.size, 2, none⟩ = some (.int .i64 o2) := hSw.1.c 2 (of_decide_eq_true rfl); have hc3 : wx.cell? ⟨w2.heap.size, 3, none⟩ = some (.int .i64 o3) := hSw.1.c 3 (of_decide_eq_true rfl); go_simp <;> with_reducible rfl)
    simp only [Act.put, List.setIfInBounds_toArray, List.set_cons_zero, List.set_cons_succ]
    refine take_at (i := 6) (v := ?v6) rfl (by kernel_rfl) (by kernel_rfl) (by kernel_rfl) (fun _ _ _ h => h) (Or.inl ⟨by rfl, ?y6⟩) hHeld ?t6
    case y6 => (intro wx hSw; have hc0 : wx.cell? ⟨x1_1, 0, none⟩ = some (.int .i64 b0) := hSw.2.2.c 0 (of_decide_eq_true rfl); have hc1 : wx.cell? ⟨x1_1, 1, none⟩ = some (.int .i64 b1) := hSw.2.2.c 1 (of_decide_eq_true rfl); have hc2 : wx.cell? ⟨x1_1, 2, none⟩ = some (.int .i64 b2) := hSw.2.2.c 2 (of_decide_eq_true rfl); go_simp <;> with_reducible rfl)
    simp only [Act.put, List.setIfInBounds_toArray, List.set_cons_zero, List.set_cons_succ]
    refine call_at3 (i0 := 3) (i1 := 8) (i2 := 9) (by kernel_rfl) rfl rfl rfl (fun K hK => ?_) (fun K hK => ?_) (fun K hK => ?_)
    · go_simp
      refine (qTurn_any w1.heap.size false (o0, o1, o2, o3) (a0, a1, a2) _ B2_c1.drew).mono ?_
      rintro e w7 ⟨rfl, f7, k7⟩
      rw [ht] at f7 ⊢
      dsimp only at f7 ⊢
      have K7 : Below w.heap.size w w7 := k7.on (Below.drew KC1) (by omega)
      have B0_7 : Arr w.heap.size [.int .i64 q.1, .int .i64 q.2.1, .int .i64 q.2.2.1, .int .i64 q.2.2.2] w7 := B0_c1.drew.kept k7 (Nat.ne_of_lt y46_B0)
      have B1_7 : Arr (w.heap.size + 1) [.int .i64 p.1, .int .i64 p.2.1, .int .i64 p.2.2.1, .int .i64 p.2.2.2.1, .int .i64 p.2.2.2.2.1, .int .i64 p.2.2.2.2.2] w7 := B1_c1.drew.kept k7 (Nat.ne_of_lt y46_B1)
      have B3_7 : Arr w2.heap.size [.int .i64 o0, .int .i64 o1, .int .i64 o2, .int .i64 o3] w7 := B3_c1.drew.kept k7 (Nat.ne_of_gt y47_B2)
      have B4_7 : Arr x1_0 [.int .i64 a0, .int .i64 a1, .int .i64 a2] w7 := B4_c1.drew.kept k7 (Nat.ne_of_gt s1_4)
      have B5_7 : Arr x1_1 [.int .i64 b0, .int .i64 b1, .int .i64 b2] w7 := B5_c1.drew.kept k7 (Nat.ne_of_gt s1_8)
      have z7 := B5_7.lies
      have z7_B4 := B4_7.lies
      clear hHeld
      refine hK.out _ _ ⟨B3_7, B4_7, B5_7⟩ (fun hHeld => ?_)
      clear hK K B0_c1 B1_c1 B2_c1 B3_c1 B4_c1 B5_c1 k7
      refine call_at3 (i0 := 7) (i1 := 8) (i2 := 9) (by kernel_rfl) rfl rfl rfl (fun K hK => ?_) (fun K hK => ?_) (fun K hK => ?_)
      · go_simp
        refine (qTurn_any w1.heap.size false (o0, o1, o2, o3) (b0, b1, b2) _ f7).mono ?_
        rintro e w8 ⟨rfl, f8, k8⟩
        rw [hy] at f8 ⊢
        dsimp only at f8 ⊢
        have K8 : Below w.heap.size w w8 := k8.on K7 (by omega)
        have B0_8 : Arr w.heap.size [.int .i64 q.1, .int .i64 q.2.1, .int .i64 q.2.2.1, .int .i64 q.2.2.2] w8 := B0_7.kept k8 (Nat.ne_of_lt y46_B0)
        have B1_8 : Arr (w.heap.size + 1) [.int .i64 p.1, .int .i64 p.2.1, .int .i64 p.2.2.1, .int .i64 p.2.2.2.1, .int .i64 p.2.2.2.2.1, .int .i64 p.2.2.2.2.2] w8 := B1_7.kept k8 (Nat.ne_of_lt y46_B1)
        have B3_8 : Arr w2.heap.size [.int .i64 o0, .int .i64 o1, .int .i64 o2, .int .i64 o3] w8 := B3_7.kept k8 (Nat.ne_of_gt y47_B2)
        have B4_8 : Arr x1_0 [.int .i64 a0, .int .i64 a1, .int .i64 a2] w8 := B4_7.kept k8 (Nat.ne_of_gt s1_4)
        have B5_8 : Arr x1_1 [.int .i64 b0, .int .i64 b1, .int .i64 b2] w8 := B5_7.kept k8 (Nat.ne_of_gt s1_8)
        have z8 := B5_8.lies
        have z8_B4 := B4_8.lies
        clear hHeld
        refine hK.out _ _ ⟨B3_8, B4_8, B5_8⟩ (fun hHeld => ?_)
        clear hK K K7 B0_7 B1_7 f7 B3_7 B4_7 B5_7 k8
        refine call_at2 (i0 := 8) (i1 := 9) (by kernel_rfl) rfl rfl (fun K hK => ?_) (fun K hK => ?_)
        · have y48_B0 : w.heap.size < w8.heap.size := B0_8.lies
          have y48_B1 : w.heap.size + 1 < w8.heap.size := B1_8.lies
          have y48_B2 : w1.heap.size < w8.heap.size := f8.lies
          have y48_B3 : w2.heap.size < w8.heap.size := B3_8.lies
          have y48_B4 : x1_0 < w8.heap.size := B4_8.lies
          have y48_B5 : x1_1 < w8.heap.size := B5_8.lies
          have y48_low : w.heap.size ≤ w8.heap.size := K8.size
          go_simp
          clear hHeld
          refine hK.out _ _ ⟨(B3_8.alloc _), (B4_8.alloc _), (B5_8.alloc _)⟩ (fun hHeld => ?_)
          clear hK K
          refine call_at (i := 9) (by kernel_rfl) rfl (fun K hK => ?_)
          have y49_B0 : w.heap.size < w8.heap.size + 1 := (Nat.lt_succ_of_lt B0_8.lies)
          have y49_B1 : w.heap.size + 1 < w8.heap.size + 1 := (Nat.lt_succ_of_lt B1_8.lies)
          have y49_B2 : w1.heap.size < w8.heap.size + 1 := (Nat.lt_succ_of_lt f8.lies)
          have y49_B3 : w2.heap.size < w8.heap.size + 1 := (Nat.lt_succ_of_lt B3_8.lies)
          have y49_B4 : x1_0 < w8.heap.size + 1 := (Nat.lt_succ_of_lt B4_8.lies)
          have y49_B5 : x1_1 < w8.heap.size + 1 := (Nat.lt_succ_of_lt B5_8.lies)
          have y49_B6 : w8.heap.size < w8.heap.size + 1 := (Nat.lt_succ_self _)
          have y49_low : w.heap.size ≤ w8.heap.size + 1 := (Nat.le_succ_of_le K8.size)
          go_simp
          clear hHeld
          refine hK.out _ _ ⟨((B3_8.alloc _).alloc _), ((B4_8.alloc _).alloc _), ((B5_8.alloc _).alloc _)⟩ (fun hHeld => ?_)
          clear hK K
          refine call_at (i := 10) (by kernel_rfl) rfl (fun K hK => ?_)
          go_simp
          clear hHeld
          refine hK.out _ _ ⟨((B3_8.alloc _).alloc _), ((B4_8.alloc _).alloc _), ((B5_8.alloc _).alloc _)⟩ (fun hHeld => ?_)
          clear hK K
          refine call_at (i := 11) (by kernel_rfl) rfl (fun K hK => ?_)
          go_simp
          clear hHeld
          refine hK.out _ _ ⟨((B3_8.alloc _).alloc _), ((B4_8.alloc _).alloc _), ((B5_8.alloc _).alloc _)⟩ (fun hHeld => ?_)
          clear hK K
          refine wpAnyH_done (by kernel_rfl) ?_ _
          clear hHeld
          exact cont2 _ _ _ _ _ _ _ _ _ _ _ _ _ _ _ _ _ _ _ _ _ _ _ _ _ _ _ _ _ _ _ _ _ _ _ _ _ _ _ _ w8.heap.size (w8.heap.size + 1) (bel_al (bel_al K8 _) _) ((B0_8.alloc _).alloc _) ((B1_8.alloc _).alloc _) ((f8.alloc _).alloc _) ((B3_8.alloc _).alloc _) ((B4_8.alloc _).alloc _) ((B5_8.alloc _).alloc _) ((Arr_at _ _ [.int .i64 t0, .int .i64 t1, .int .i64 t2] _ (by simp)).alloc _) (Arr_at _ _ [.int .i64 y0, .int .i64 y1, .int .i64 y2] _ (by simp)) y48_low y49_low y48_B0 y48_B1 y48_B2 y48_B3 y48_B4 y48_B5 y49_B0 y49_B1 y49_B2 y49_B3 y49_B4 y49_B5 (Nat.ne_of_lt y49_B6)
        · have y50_B0 : w.heap.size < w8.heap.size := B0_8.lies
          have y50_B1 : w.heap.size + 1 < w8.heap.size := B1_8.lies
          have y50_B2 : w1.heap.size < w8.heap.size := f8.lies
          have y50_B3 : w2.heap.size < w8.heap.size := B3_8.lies
          have y50_B4 : x1_0 < w8.heap.size := B4_8.lies
          have y50_B5 : x1_1 < w8.heap.size := B5_8.lies
          have y50_low : w.heap.size ≤ w8.heap.size := K8.size
          go_simp
          clear hHeld
          refine hK.out _ _ ⟨(B3_8.alloc _), (B4_8.alloc _), (B5_8.alloc _)⟩ (fun hHeld => ?_)
          clear hK K
          refine call_at (i := 8) (by kernel_rfl) rfl (fun K hK => ?_)
          have y51_B0 : w.heap.size < w8.heap.size + 1 := (Nat.lt_succ_of_lt B0_8.lies)
          have y51_B1 : w.heap.size + 1 < w8.heap.size + 1 := (Nat.lt_succ_of_lt B1_8.lies)
          have y51_B2 : w1.heap.size < w8.heap.size + 1 := (Nat.lt_succ_of_lt f8.lies)
          have y51_B3 : w2.heap.size < w8.heap.size + 1 := (Nat.lt_succ_of_lt B3_8.lies)
          have y51_B4 : x1_0 < w8.heap.size + 1 := (Nat.lt_succ_of_lt B4_8.lies)
          have y51_B5 : x1_1 < w8.heap.size + 1 := (Nat.lt_succ_of_lt B5_8.lies)
          have y51_B6 : w8.heap.size < w8.heap.size + 1 := (Nat.lt_succ_self _)
          have y51_low : w.heap.size ≤ w8.heap.size + 1 := (Nat.le_succ_of_le K8.size)
          go_simp
          clear hHeld
          refine hK.out _ _ ⟨((B3_8.alloc _).alloc _), ((B4_8.alloc _).alloc _), ((B5_8.alloc _).alloc _)⟩ (fun hHeld => ?_)
          clear hK K
          refine call_at (i := 10) (by kernel_rfl) rfl (fun K hK => ?_)
          go_simp
          clear hHeld
          refine hK.out _ _ ⟨((B3_8.alloc _).alloc _), ((B4_8.alloc _).alloc _), ((B5_8.alloc _).alloc _)⟩ (fun hHeld => ?_)
          clear hK K
          refine call_at (i := 11) (by kernel_rfl) rfl (fun K hK => ?_)
          go_simp
          clear hHeld
          refine hK.out _ _ ⟨((B3_8.alloc _).alloc _), ((B4_8.alloc _).alloc _), ((B5_8.alloc _).alloc _)⟩ (fun hHeld => ?_)
          clear hK K
          refine wpAnyH_done (by kernel_rfl) ?_ _
          clear hHeld
          exact cont2 _ _ _ _ _ _ _ _ _ _ _ _ _ _ _ _ _ _ _ _ _ _ _ _ _ _ _ _ _ _ _ _ _ _ _ _ _ _ _ _ (w8.heap.size + 1) w8.heap.size (bel_al (bel_al K8 _) _) ((B0_8.alloc _).alloc _) ((B1_8.alloc _).alloc _) ((f8.alloc _).alloc _) ((B3_8.alloc _).alloc _) ((B4_8.alloc _).alloc _) ((B5_8.alloc _).alloc _) (Arr_at _ _ [.int .i64 t0, .int .i64 t1, .int .i64 t2] _ (by simp)) ((Arr_at _ _ [.int .i64 y0, .int .i64 y1, .int .i64 y2] _ (by simp)).alloc _) y51_low y50_low y51_B0 y51_B1 y51_B2 y51_B3 y51_B4 y51_B5 y50_B0 y50_B1 y50_B2 y50_B3 y50_B4 y50_B5 (Nat.ne_of_gt y51_B6)
      · have y52_B0 : w.heap.size < w7.heap.size := B0_7.lies
        have y52_B1 : w.heap.size + 1 < w7.heap.size := B1_7.lies
        have y52_B2 : w1.heap.size < w7.heap.size := f7.lies
        have y52_B3 : w2.heap.size < w7.heap.size := B3_7.lies
        have y52_B4 : x1_0 < w7.heap.size := B4_7.lies
        have y52_B5 : x1_1 < w7.heap.size := B5_7.lies
        have y52_low : w.heap.size ≤ w7.heap.size := K7.size
        go_simp
        clear hHeld
        refine hK.out _ _ ⟨(B3_7.alloc _), (B4_7.alloc _), (B5_7.alloc _)⟩ (fun hHeld => ?_)
        clear hK K
        refine call_at2 (i0 := 7) (i1 := 9) (by kernel_rfl) rfl rfl (fun K hK => ?_) (fun K hK => ?_)
        · go_simp
          refine (qTurn_any w1.heap.size false (o0, o1, o2, o3) (b0, b1, b2) _ (f7.alloc _)).mono ?_
          rintro e w8 ⟨rfl, f8, k8⟩
          rw [hy] at f8 ⊢
          dsimp only at f8 ⊢
          have K8 : Below w.heap.size w w8 := k8.on (bel_al K7 _) (by omega)
          have B0_8 : Arr w.heap.size [.int .i64 q.1, .int .i64 q.2.1, .int .i64 q.2.2.1, .int .i64 q.2.2.2] w8 := (B0_7.alloc _).kept k8 (Nat.ne_of_lt y46_B0)
          have B1_8 : Arr (w.heap.size + 1) [.int .i64 p.1, .int .i64 p.2.1, .int .i64 p.2.2.1, .int .i64 p.2.2.2.1, .int .i64 p.2.2.2.2.1, .int .i64 p.2.2.2.2.2] w8 := (B1_7.alloc _).kept k8 (Nat.ne_of_lt y46_B1)
          have B3_8 : Arr w2.heap.size [.int .i64 o0, .int .i64 o1, .int .i64 o2, .int .i64 o3] w8 := (B3_7.alloc _).kept k8 (Nat.ne_of_gt y47_B2)
          have B4_8 : Arr x1_0 [.int .i64 a0, .int .i64 a1, .int .i64 a2] w8 := (B4_7.alloc _).kept k8 (Nat.ne_of_gt s1_4)
          have B5_8 : Arr x1_1 [.int .i64 b0, .int .i64 b1, .int .i64 b2] w8 := (B5_7.alloc _).kept k8 (Nat.ne_of_gt s1_8)
          have B6_8 : Arr w7.heap.size [.int .i64 0, .int .i64 0, .int .i64 0] w8 := (Arr_at _ _ [.int .i64 0, .int .i64 0, .int .i64 0] _ (by simp)).kept k8 (Nat.ne_of_gt y52_B2)
          have z8 := B6_8.lies
          have z8_B4 := B4_8.lies
          have z8_B5 := B5_8.lies
          clear hHeld
          refine hK.out _ _ ⟨B3_8, B4_8, B5_8⟩ (fun hHeld => ?_)
          clear hK K K7 B0_7 B1_7 f7 B3_7 B4_7 B5_7 k8
          refine call_at (i := 9) (by kernel_rfl) rfl (fun K hK => ?_)
          have y53_B0 : w.heap.size < w8.heap.size := B0_8.lies
          have y53_B1 : w.heap.size + 1 < w8.heap.size := B1_8.lies
          have y53_B2 : w1.heap.size < w8.heap.size := f8.lies
          have y53_B3 : w2.heap.size < w8.heap.size := B3_8.lies
          have y53_B4 : x1_0 < w8.heap.size := B4_8.lies
          have y53_B5 : x1_1 < w8.heap.size := B5_8.lies
          have y53_B6 : w7.heap.size < w8.heap.size := B6_8.lies
          have y53_low : w.heap.size ≤ w8.heap.size := K8.size
          go_simp
          clear hHeld
          refine hK.out _ _ ⟨(B3_8.alloc _), (B4_8.alloc _), (B5_8.alloc _)⟩ (fun hHeld => ?_)
          clear hK K
          refine call_at (i := 10) (by kernel_rfl) rfl (fun K hK => ?_)
          have c9_B6_0 : w8.cell? ⟨w7.heap.size, 0, none⟩ = some (.int .i64 0) := B6_8.c 0 (of_decide_eq_true rfl)
          have c9_B6_1 : w8.cell? ⟨w7.heap.size, 1, none⟩ = some (.int .i64 0) := B6_8.c 1 (of_decide_eq_true rfl)
          have c9_B6_2 : w8.cell? ⟨w7.heap.size, 2, none⟩ = some (.int .i64 0) := B6_8.c 2 (of_decide_eq_true rfl)
          have g9_B6_0 := B6_8.f 0 (of_decide_eq_true rfl)
          have g9_B6_1 := B6_8.f 1 (of_decide_eq_true rfl)
          have g9_B6_2 := B6_8.f 2 (of_decide_eq_true rfl)
          have l9_B6 := B6_8.lies
          go_simp
          clear hHeld
          refine hK.out _ _ ⟨((((B3_8.new w7.heap.size 0 (Nat.ne_of_lt y52_B3) (.int .i64 t0)).new w7.heap.size 1 (Nat.ne_of_lt y52_B3) (.int .i64 t1)).new w7.heap.size 2 (Nat.ne_of_lt y52_B3) (.int .i64 t2)).alloc _), ((((B4_8.new w7.heap.size 0 (Nat.ne_of_lt y52_B4) (.int .i64 t0)).new w7.heap.size 1 (Nat.ne_of_lt y52_B4) (.int .i64 t1)).new w7.heap.size 2 (Nat.ne_of_lt y52_B4) (.int .i64 t2)).alloc _), ((((B5_8.new w7.heap.size 0 (Nat.ne_of_lt y52_B5) (.int .i64 t0)).new w7.heap.size 1 (Nat.ne_of_lt y52_B5) (.int .i64 t1)).new w7.heap.size 2 (Nat.ne_of_lt y52_B5) (.int .i64 t2)).alloc _)⟩ (fun hHeld => ?_)
          clear hK K c9_B6_0 c9_B6_1 c9_B6_2 g9_B6_0 g9_B6_1 g9_B6_2 l9_B6
          refine call_at (i := 11) (by kernel_rfl) rfl (fun K hK => ?_)
          go_simp
          clear hHeld
          refine hK.out _ _ ⟨((((B3_8.new w7.heap.size 0 (Nat.ne_of_lt y52_B3) (.int .i64 t0)).new w7.heap.size 1 (Nat.ne_of_lt y52_B3) (.int .i64 t1)).new w7.heap.size 2 (Nat.ne_of_lt y52_B3) (.int .i64 t2)).alloc _), ((((B4_8.new w7.heap.size 0 (Nat.ne_of_lt y52_B4) (.int .i64 t0)).new w7.heap.size 1 (Nat.ne_of_lt y52_B4) (.int .i64 t1)).new w7.heap.size 2 (Nat.ne_of_lt y52_B4) (.int .i64 t2)).alloc _), ((((B5_8.new w7.heap.size 0 (Nat.ne_of_lt y52_B5) (.int .i64 t0)).new w7.heap.size 1 (Nat.ne_of_lt y52_B5) (.int .i64 t1)).new w7.heap.size 2 (Nat.ne_of_lt y52_B5) (.int .i64 t2)).alloc _)⟩ (fun hHeld => ?_)
          clear hK K
          refine wpAnyH_done (by kernel_rfl) ?_ _
          clear hHeld
          exact cont2 _ _ _ _ _ _ _ _ _ _ _ _ _ _ _ _ _ _ _ _ _ _ _ _ _ _ _ _ _ _ _ _ _ _ _ _ _ _ _ _ w7.heap.size w8.heap.size (bel_al (bel_new (bel_new (bel_new K8 _ _ y52_low _) _ _ y52_low _) _ _ y52_low _) _) ((((B0_8.new w7.heap.size 0 (Nat.ne_of_lt y52_B0) (.int .i64 t0)).new w7.heap.size 1 (Nat.ne_of_lt y52_B0) (.int .i64 t1)).new w7.heap.size 2 (Nat.ne_of_lt y52_B0) (.int .i64 t2)).alloc _) ((((B1_8.new w7.heap.size 0 (Nat.ne_of_lt y52_B1) (.int .i64 t0)).new w7.heap.size 1 (Nat.ne_of_lt y52_B1) (.int .i64 t1)).new w7.heap.size 2 (Nat.ne_of_lt y52_B1) (.int .i64 t2)).alloc _) ((((f8.new w7.heap.size 0 (Nat.ne_of_lt y52_B2) (.int .i64 t0)).new w7.heap.size 1 (Nat.ne_of_lt y52_B2) (.int .i64 t1)).new w7.heap.size 2 (Nat.ne_of_lt y52_B2) (.int .i64 t2)).alloc _) ((((B3_8.new w7.heap.size 0 (Nat.ne_of_lt y52_B3) (.int .i64 t0)).new w7.heap.size 1 (Nat.ne_of_lt y52_B3) (.int .i64 t1)).new w7.heap.size 2 (Nat.ne_of_lt y52_B3) (.int .i64 t2)).alloc _) ((((B4_8.new w7.heap.size 0 (Nat.ne_of_lt y52_B4) (.int .i64 t0)).new w7.heap.size 1 (Nat.ne_of_lt y52_B4) (.int .i64 t1)).new w7.heap.size 2 (Nat.ne_of_lt y52_B4) (.int .i64 t2)).alloc _) ((((B5_8.new w7.heap.size 0 (Nat.ne_of_lt y52_B5) (.int .i64 t0)).new w7.heap.size 1 (Nat.ne_of_lt y52_B5) (.int .i64 t1)).new w7.heap.size 2 (Nat.ne_of_lt y52_B5) (.int .i64 t2)).alloc _) ((((B6_8.put 0 (of_decide_eq_true rfl) (.int .i64 t0) [.int .i64 t0, .int .i64 0, .int .i64 0] rfl).put 1 (of_decide_eq_true rfl) (.int .i64 t1) [.int .i64 t0, .int .i64 t1, .int .i64 0] rfl).put 2 (of_decide_eq_true rfl) (.int .i64 t2) [.int .i64 t0, .int .i64 t1, .int .i64 t2] rfl).alloc _) (Arr_at _ _ [.int .i64 y0, .int .i64 y1, .int .i64 y2] _ (by simp)) y52_low y53_low y52_B0 y52_B1 y52_B2 y52_B3 y52_B4 y52_B5 y53_B0 y53_B1 y53_B2 y53_B3 y53_B4 y53_B5 (Nat.ne_of_lt y53_B6)
        · have y54_B0 : w.heap.size < w7.heap.size + 1 := (Nat.lt_succ_of_lt B0_7.lies)
          have y54_B1 : w.heap.size + 1 < w7.heap.size + 1 := (Nat.lt_succ_of_lt B1_7.lies)
          have y54_B2 : w1.heap.size < w7.heap.size + 1 := (Nat.lt_succ_of_lt f7.lies)
          have y54_B3 : w2.heap.size < w7.heap.size + 1 := (Nat.lt_succ_of_lt B3_7.lies)
          have y54_B4 : x1_0 < w7.heap.size + 1 := (Nat.lt_succ_of_lt B4_7.lies)
          have y54_B5 : x1_1 < w7.heap.size + 1 := (Nat.lt_succ_of_lt B5_7.lies)
          have y54_B6 : w7.heap.size < w7.heap.size + 1 := (Nat.lt_succ_self _)
          have y54_low : w.heap.size ≤ w7.heap.size + 1 := (Nat.le_succ_of_le K7.size)
          go_simp
          clear hHeld
          refine hK.out _ _ ⟨((B3_7.alloc _).alloc _), ((B4_7.alloc _).alloc _), ((B5_7.alloc _).alloc _)⟩ (fun hHeld => ?_)
          clear hK K
          refine call_at (i := 7) (by kernel_rfl) rfl (fun K hK => ?_)
          go_simp
          refine (qTurn_any w1.heap.size false (o0, o1, o2, o3) (b0, b1, b2) _ ((f7.alloc _).alloc _)).mono ?_
          rintro e w8 ⟨rfl, f8, k8⟩
          rw [hy] at f8 ⊢
          dsimp only at f8 ⊢
          have K8 : Below w.heap.size w w8 := k8.on (bel_al (bel_al K7 _) _) (by omega)
          have B0_8 : Arr w.heap.size [.int .i64 q.1, .int .i64 q.2.1, .int .i64 q.2.2.1, .int .i64 q.2.2.2] w8 := ((B0_7.alloc _).alloc _).kept k8 (Nat.ne_of_lt y46_B0)
          have B1_8 : Arr (w.heap.size + 1) [.int .i64 p.1, .int .i64 p.2.1, .int .i64 p.2.2.1, .int .i64 p.2.2.2.1, .int .i64 p.2.2.2.2.1, .int .i64 p.2.2.2.2.2] w8 := ((B1_7.alloc _).alloc _).kept k8 (Nat.ne_of_lt y46_B1)
          have B3_8 : Arr w2.heap.size [.int .i64 o0, .int .i64 o1, .int .i64 o2, .int .i64 o3] w8 := ((B3_7.alloc _).alloc _).kept k8 (Nat.ne_of_gt y47_B2)
          have B4_8 : Arr x1_0 [.int .i64 a0, .int .i64 a1, .int .i64 a2] w8 := ((B4_7.alloc _).alloc _).kept k8 (Nat.ne_of_gt s1_4)
          have B5_8 : Arr x1_1 [.int .i64 b0, .int .i64 b1, .int .i64 b2] w8 := ((B5_7.alloc _).alloc _).kept k8 (Nat.ne_of_gt s1_8)
          have B6_8 : Arr w7.heap.size [.int .i64 0, .int .i64 0, .int .i64 0] w8 := ((Arr_at _ _ [.int .i64 0, .int .i64 0, .int .i64 0] _ (by simp)).alloc _).kept k8 (Nat.ne_of_gt y52_B2)
          have B7_8 : Arr (w7.heap.size + 1) [.int .i64 0, .int .i64 0, .int .i64 0] w8 := (Arr_at _ _ [.int .i64 0, .int .i64 0, .int .i64 0] _ (by simp)).kept k8 (Nat.ne_of_gt y54_B2)
          have z8 := B7_8.lies
          have z8_B4 := B4_8.lies
          have z8_B5 := B5_8.lies
          clear hHeld
          refine hK.out _ _ ⟨B3_8, B4_8, B5_8⟩ (fun hHeld => ?_)
          clear hK K K7 B0_7 B1_7 f7 B3_7 B4_7 B5_7 k8
          refine call_at (i := 10) (by kernel_rfl) rfl (fun K hK => ?_)
          have c9_B6_0 : w8.cell? ⟨w7.heap.size, 0, none⟩ = some (.int .i64 0) := B6_8.c 0 (of_decide_eq_true rfl)
          have c9_B6_1 : w8.cell? ⟨w7.heap.size, 1, none⟩ = some (.int .i64 0) := B6_8.c 1 (of_decide_eq_true rfl)
          have c9_B6_2 : w8.cell? ⟨w7.heap.size, 2, none⟩ = some (.int .i64 0) := B6_8.c 2 (of_decide_eq_true rfl)
          have g9_B6_0 := B6_8.f 0 (of_decide_eq_true rfl)
          have g9_B6_1 := B6_8.f 1 (of_decide_eq_true rfl)
          have g9_B6_2 := B6_8.f 2 (of_decide_eq_true rfl)
          go_simp
          clear hHeld
          refine hK.out _ _ ⟨(((B3_8.new w7.heap.size 0 (Nat.ne_of_lt y52_B3) (.int .i64 t0)).new w7.heap.size 1 (Nat.ne_of_lt y52_B3) (.int .i64 t1)).new w7.heap.size 2 (Nat.ne_of_lt y52_B3) (.int .i64 t2)), (((B4_8.new w7.heap.size 0 (Nat.ne_of_lt y52_B4) (.int .i64 t0)).new w7.heap.size 1 (Nat.ne_of_lt y52_B4) (.int .i64 t1)).new w7.heap.size 2 (Nat.ne_of_lt y52_B4) (.int .i64 t2)), (((B5_8.new w7.heap.size 0 (Nat.ne_of_lt y52_B5) (.int .i64 t0)).new w7.heap.size 1 (Nat.ne_of_lt y52_B5) (.int .i64 t1)).new w7.heap.size 2 (Nat.ne_of_lt y52_B5) (.int .i64 t2))⟩ (fun hHeld => ?_)
          clear hK K c9_B6_0 c9_B6_1 c9_B6_2 g9_B6_0 g9_B6_1 g9_B6_2
          refine call_at (i := 11) (by kernel_rfl) rfl (fun K hK => ?_)
          have c10_B7_0 : w8.cell? ⟨w7.heap.size + 1, 0, none⟩ = some (.int .i64 0) := B7_8.c 0 (of_decide_eq_true rfl)
          have c10_B7_1 : w8.cell? ⟨w7.heap.size + 1, 1, none⟩ = some (.int .i64 0) := B7_8.c 1 (of_decide_eq_true rfl)
          have c10_B7_2 : w8.cell? ⟨w7.heap.size + 1, 2, none⟩ = some (.int .i64 0) := B7_8.c 2 (of_decide_eq_true rfl)
          have g10_B7_0 := B7_8.f 0 (of_decide_eq_true rfl)
          have g10_B7_1 := B7_8.f 1 (of_decide_eq_true rfl)
          have g10_B7_2 := B7_8.f 2 (of_decide_eq_true rfl)
          go_simp
          clear hHeld
          refine hK.out _ _ ⟨((((((B3_8.new w7.heap.size 0 (Nat.ne_of_lt y52_B3) (.int .i64 t0)).new w7.heap.size 1 (Nat.ne_of_lt y52_B3) (.int .i64 t1)).new w7.heap.size 2 (Nat.ne_of_lt y52_B3) (.int .i64 t2)).new (w7.heap.size + 1) 0 (Nat.ne_of_lt y54_B3) (.int .i64 y0)).new (w7.heap.size + 1) 1 (Nat.ne_of_lt y54_B3) (.int .i64 y1)).new (w7.heap.size + 1) 2 (Nat.ne_of_lt y54_B3) (.int .i64 y2)), ((((((B4_8.new w7.heap.size 0 (Nat.ne_of_lt y52_B4) (.int .i64 t0)).new w7.heap.size 1 (Nat.ne_of_lt y52_B4) (.int .i64 t1)).new w7.heap.size 2 (Nat.ne_of_lt y52_B4) (.int .i64 t2)).new (w7.heap.size + 1) 0 (Nat.ne_of_lt y54_B4) (.int .i64 y0)).new (w7.heap.size + 1) 1 (Nat.ne_of_lt y54_B4) (.int .i64 y1)).new (w7.heap.size + 1) 2 (Nat.ne_of_lt y54_B4) (.int .i64 y2)), ((((((B5_8.new w7.heap.size 0 (Nat.ne_of_lt y52_B5) (.int .i64 t0)).new w7.heap.size 1 (Nat.ne_of_lt y52_B5) (.int .i64 t1)).new w7.heap.size 2 (Nat.ne_of_lt y52_B5) (.int .i64 t2)).new (w7.heap.size + 1) 0 (Nat.ne_of_lt y54_B5) (.int .i64 y0)).new (w7.heap.size + 1) 1 (Nat.ne_of_lt y54_B5) (.int .i64 y1)).new (w7.heap.size + 1) 2 (Nat.ne_of_lt y54_B5) (.int .i64 y2))⟩ (fun hHeld => ?_)
          clear hK K c10_B7_0 c10_B7_1 c10_B7_2 g10_B7_0 g10_B7_1 g10_B7_2
          refine wpAnyH_done (by kernel_rfl) ?_ _
          clear hHeld
          exact cont2 _ _ _ _ _ _ _ _ _ _ _ _ _ _ _ _ _ _ _ _ _ _ _ _ _ _ _ _ _ _ _ _ _ _ _ _ _ _ _ _ w7.heap.size (w7.heap.size + 1) (bel_new (bel_new (bel_new (bel_new (bel_new (bel_new K8 _ _ y52_low _) _ _ y52_low _) _ _ y52_low _) _ _ y54_low _) _ _ y54_low _) _ _ y54_low _) ((((((B0_8.new w7.heap.size 0 (Nat.ne_of_lt y52_B0) (.int .i64 t0)).new w7.heap.size 1 (Nat.ne_of_lt y52_B0) (.int .i64 t1)).new w7.heap.size 2 (Nat.ne_of_lt y52_B0) (.int .i64 t2)).new (w7.heap.size + 1) 0 (Nat.ne_of_lt y54_B0) (.int .i64 y0)).new (w7.heap.size + 1) 1 (Nat.ne_of_lt y54_B0) (.int .i64 y1)).new (w7.heap.size + 1) 2 (Nat.ne_of_lt y54_B0) (.int .i64 y2)) ((((((B1_8.new w7.heap.size 0 (Nat.ne_of_lt y52_B1) (.int .i64 t0)).new w7.heap.size 1 (Nat.ne_of_lt y52_B1) (.int .i64 t1)).new w7.heap.size 2 (Nat.ne_of_lt y52_B1) (.int .i64 t2)).new (w7.heap.size + 1) 0 (Nat.ne_of_lt y54_B1) (.int .i64 y0)).new (w7.heap.size + 1) 1 (Nat.ne_of_lt y54_B1) (.int .i64 y1)).new (w7.heap.size + 1) 2 (Nat.ne_of_lt y54_B1) (.int .i64 y2)) ((((((f8.new w7.heap.size 0 (Nat.ne_of_lt y52_B2) (.int .i64 t0)).new w7.heap.size 1 (Nat.ne_of_lt y52_B2) (.int .i64 t1)).new w7.heap.size 2 (Nat.ne_of_lt y52_B2) (.int .i64 t2)).new (w7.heap.size + 1) 0 (Nat.ne_of_lt y54_B2) (.int .i64 y0)).new (w7.heap.size + 1) 1 (Nat.ne_of_lt y54_B2) (.int .i64 y1)).new (w7.heap.size + 1) 2 (Nat.ne_of_lt y54_B2) (.int .i64 y2)) ((((((B3_8.new w7.heap.size 0 (Nat.ne_of_lt y52_B3) (.int .i64 t0)).new w7.heap.size 1 (Nat.ne_of_lt y52_B3) (.int .i64 t1)).new w7.heap.size 2 (Nat.ne_of_lt y52_B3) (.int .i64 t2)).new (w7.heap.size + 1) 0 (Nat.ne_of_lt y54_B3) (.int .i64 y0)).new (w7.heap.size + 1) 1 (Nat.ne_of_lt y54_B3) (.int .i64 y1)).new (w7.heap.size + 1) 2 (Nat.ne_of_lt y54_B3) (.int .i64 y2)) ((((((B4_8.new w7.heap.size 0 (Nat.ne_of_lt y52_B4) (.int .i64 t0)).new w7.heap.size 1 (Nat.ne_of_lt y52_B4) (.int .i64 t1)).new w7.heap.size 2 (Nat.ne_of_lt y52_B4) (.int .i64 t2)).new (w7.heap.size + 1) 0 (Nat.ne_of_lt y54_B4) (.int .i64 y0)).new (w7.heap.size + 1) 1 (Nat.ne_of_lt y54_B4) (.int .i64 y1)).new (w7.heap.size + 1) 2 (Nat.ne_of_lt y54_B4) (.int .i64 y2)) ((((((B5_8.new w7.heap.size 0 (Nat.ne_of_lt y52_B5) (.int .i64 t0)).new w7.heap.size 1 (Nat.ne_of_lt y52_B5) (.int .i64 t1)).new w7.heap.size 2 (Nat.ne_of_lt y52_B5) (.int .i64 t2)).new (w7.heap.size + 1) 0 (Nat.ne_of_lt y54_B5) (.int .i64 y0)).new (w7.heap.size + 1) 1 (Nat.ne_of_lt y54_B5) (.int .i64 y1)).new (w7.heap.size + 1) 2 (Nat.ne_of_lt y54_B5) (.int .i64 y2)) ((((((B6_8.put 0 (of_decide_eq_true rfl) (.int .i64 t0) [.int .i64 t0, .int .i64 0, .int .i64 0] rfl).put 1 (of_decide_eq_true rfl) (.int .i64 t1) [.int .i64 t0, .int .i64 t1, .int .i64 0] rfl).put 2 (of_decide_eq_true rfl) (.int .i64 t2) [.int .i64 t0, .int .i64 t1, .int .i64 t2] rfl).new (w7.heap.size + 1) 0 (Nat.ne_of_lt y54_B6) (.int .i64 y0)).new (w7.heap.size + 1) 1 (Nat.ne_of_lt y54_B6) (.int .i64 y1)).new (w7.heap.size + 1) 2 (Nat.ne_of_lt y54_B6) (.int .i64 y2)) ((((((B7_8.new w7.heap.size 0 (Nat.ne_of_gt y54_B6) (.int .i64 t0)).new w7.heap.size 1 (Nat.ne_of_gt y54_B6) (.int .i64 t1)).new w7.heap.size 2 (Nat.ne_of_gt y54_B6) (.int .i64 t2)).put 0 (of_decide_eq_true rfl) (.int .i64 y0) [.int .i64 y0, .int .i64 0, .int .i64 0] rfl).put 1 (of_decide_eq_true rfl) (.int .i64 y1) [.int .i64 y0, .int .i64 y1, .int .i64 0] rfl).put 2 (of_decide_eq_true rfl) (.int .i64 y2) [.int .i64 y0, .int .i64 y1, .int .i64 y2] rfl) y52_low y54_low y52_B0 y52_B1 y52_B2 y52_B3 y52_B4 y52_B5 y54_B0 y54_B1 y54_B2 y54_B3 y54_B4 y54_B5 (Nat.ne_of_lt y54_B6)
      · have y55_B0 : w.heap.size < w7.heap.size := B0_7.lies
        have y55_B1 : w.heap.size + 1 < w7.heap.size := B1_7.lies
        have y55_B2 : w1.heap.size < w7.heap.size := f7.lies
        have y55_B3 : w2.heap.size < w7.heap.size := B3_7.lies
        have y55_B4 : x1_0 < w7.heap.size := B4_7.lies
        have y55_B5 : x1_1 < w7.heap.size := B5_7.lies
        have y55_low : w.heap.size ≤ w7.heap.size := K7.size
        go_simp
        clear hHeld
        refine hK.out _ _ ⟨(B3_7.alloc _), (B4_7.alloc _), (B5_7.alloc _)⟩ (fun hHeld => ?_)
        clear hK K
        refine call_at2 (i0 := 7) (i1 := 8) (by kernel_rfl) rfl rfl (fun K hK => ?_) (fun K hK => ?_)
        · go_simp
          refine (qTurn_any w1.heap.size false (o0, o1, o2, o3) (b0, b1, b2) _ (f7.alloc _)).mono ?_
          rintro e w8 ⟨rfl, f8, k8⟩
          rw [hy] at f8 ⊢
          dsimp only at f8 ⊢
          have K8 : Below w.heap.size w w8 := k8.on (bel_al K7 _) (by omega)
          have B0_8 : Arr w.heap.size [.int .i64 q.1, .int .i64 q.2.1, .int .i64 q.2.2.1, .int .i64 q.2.2.2] w8 := (B0_7.alloc _).kept k8 (Nat.ne_of_lt y46_B0)
          have B1_8 : Arr (w.heap.size + 1) [.int .i64 p.1, .int .i64 p.2.1, .int .i64 p.2.2.1, .int .i64 p.2.2.2.1, .int .i64 p.2.2.2.2.1, .int .i64 p.2.2.2.2.2] w8 := (B1_7.alloc _).kept k8 (Nat.ne_of_lt y46_B1)
          have B3_8 : Arr w2.heap.size [.int .i64 o0, .int .i64 o1, .int .i64 o2, .int .i64 o3] w8 := (B3_7.alloc _).kept k8 (Nat.ne_of_gt y47_B2)
          have B4_8 : Arr x1_0 [.int .i64 a0, .int .i64 a1, .int .i64 a2] w8 := (B4_7.alloc _).kept k8 (Nat.ne_of_gt s1_4)
          have B5_8 : Arr x1_1 [.int .i64 b0, .int .i64 b1, .int .i64 b2] w8 := (B5_7.alloc _).kept k8 (Nat.ne_of_gt s1_8)
          have B6_8 : Arr w7.heap.size [.int .i64 0, .int .i64 0, .int .i64 0] w8 := (Arr_at _ _ [.int .i64 0, .int .i64 0, .int .i64 0] _ (by simp)).kept k8 (Nat.ne_of_gt y55_B2)
          have z8 := B6_8.lies
          have z8_B4 := B4_8.lies
          have z8_B5 := B5_8.lies
          clear hHeld
          refine hK.out _ _ ⟨B3_8, B4_8, B5_8⟩ (fun hHeld => ?_)
          clear hK K K7 B0_7 B1_7 f7 B3_7 B4_7 B5_7 k8
          refine call_at (i := 8) (by kernel_rfl) rfl (fun K hK => ?_)
          have y56_B0 : w.heap.size < w8.heap.size := B0_8.lies
          have y56_B1 : w.heap.size + 1 < w8.heap.size := B1_8.lies
          have y56_B2 : w1.heap.size < w8.heap.size := f8.lies
          have y56_B3 : w2.heap.size < w8.heap.size := B3_8.lies
          have y56_B4 : x1_0 < w8.heap.size := B4_8.lies
          have y56_B5 : x1_1 < w8.heap.size := B5_8.lies
          have y56_B6 : w7.heap.size < w8.heap.size := B6_8.lies
          have y56_low : w.heap.size ≤ w8.heap.size := K8.size
          go_simp
          clear hHeld
          refine hK.out _ _ ⟨(B3_8.alloc _), (B4_8.alloc _), (B5_8.alloc _)⟩ (fun hHeld => ?_)
          clear hK K
          refine call_at (i := 10) (by kernel_rfl) rfl (fun K hK => ?_)
          go_simp
          clear hHeld
          refine hK.out _ _ ⟨(B3_8.alloc _), (B4_8.alloc _), (B5_8.alloc _)⟩ (fun hHeld => ?_)
          clear hK K
          refine call_at (i := 11) (by kernel_rfl) rfl (fun K hK => ?_)
          have c10_B6_0 : w8.cell? ⟨w7.heap.size, 0, none⟩ = some (.int .i64 0) := B6_8.c 0 (of_decide_eq_true rfl)
          have c10_B6_1 : w8.cell? ⟨w7.heap.size, 1, none⟩ = some (.int .i64 0) := B6_8.c 1 (of_decide_eq_true rfl)
          have c10_B6_2 : w8.cell? ⟨w7.heap.size, 2, none⟩ = some (.int .i64 0) := B6_8.c 2 (of_decide_eq_true rfl)
          have g10_B6_0 := B6_8.f 0 (of_decide_eq_true rfl)
          have g10_B6_1 := B6_8.f 1 (of_decide_eq_true rfl)
          have g10_B6_2 := B6_8.f 2 (of_decide_eq_true rfl)
          have l10_B6 := B6_8.lies
          go_simp
          clear hHeld
          refine hK.out _ _ ⟨((((B3_8.new w7.heap.size 0 (Nat.ne_of_lt y55_B3) (.int .i64 y0)).new w7.heap.size 1 (Nat.ne_of_lt y55_B3) (.int .i64 y1)).new w7.heap.size 2 (Nat.ne_of_lt y55_B3) (.int .i64 y2)).alloc _), ((((B4_8.new w7.heap.size 0 (Nat.ne_of_lt y55_B4) (.int .i64 y0)).new w7.heap.size 1 (Nat.ne_of_lt y55_B4) (.int .i64 y1)).new w7.heap.size 2 (Nat.ne_of_lt y55_B4) (.int .i64 y2)).alloc _), ((((B5_8.new w7.heap.size 0 (Nat.ne_of_lt y55_B5) (.int .i64 y0)).new w7.heap.size 1 (Nat.ne_of_lt y55_B5) (.int .i64 y1)).new w7.heap.size 2 (Nat.ne_of_lt y55_B5) (.int .i64 y2)).alloc _)⟩ (fun hHeld => ?_)
          clear hK K c10_B6_0 c10_B6_1 c10_B6_2 g10_B6_0 g10_B6_1 g10_B6_2 l10_B6
          refine wpAnyH_done (by kernel_rfl) ?_ _
          clear hHeld
          exact cont2 _ _ _ _ _ _ _ _ _ _ _ _ _ _ _ _ _ _ _ _ _ _ _ _ _ _ _ _ _ _ _ _ _ _ _ _ _ _ _ _ w8.heap.size w7.heap.size (bel_al (bel_new (bel_new (bel_new K8 _ _ y55_low _) _ _ y55_low _) _ _ y55_low _) _) ((((B0_8.new w7.heap.size 0 (Nat.ne_of_lt y55_B0) (.int .i64 y0)).new w7.heap.size 1 (Nat.ne_of_lt y55_B0) (.int .i64 y1)).new w7.heap.size 2 (Nat.ne_of_lt y55_B0) (.int .i64 y2)).alloc _) ((((B1_8.new w7.heap.size 0 (Nat.ne_of_lt y55_B1) (.int .i64 y0)).new w7.heap.size 1 (Nat.ne_of_lt y55_B1) (.int .i64 y1)).new w7.heap.size 2 (Nat.ne_of_lt y55_B1) (.int .i64 y2)).alloc _) ((((f8.new w7.heap.size 0 (Nat.ne_of_lt y55_B2) (.int .i64 y0)).new w7.heap.size 1 (Nat.ne_of_lt y55_B2) (.int .i64 y1)).new w7.heap.size 2 (Nat.ne_of_lt y55_B2) (.int .i64 y2)).alloc _) ((((B3_8.new w7.heap.size 0 (Nat.ne_of_lt y55_B3) (.int .i64 y0)).new w7.heap.size 1 (Nat.ne_of_lt y55_B3) (.int .i64 y1)).new w7.heap.size 2 (Nat.ne_of_lt y55_B3) (.int .i64 y2)).alloc _) ((((B4_8.new w7.heap.size 0 (Nat.ne_of_lt y55_B4) (.int .i64 y0)).new w7.heap.size 1 (Nat.ne_of_lt y55_B4) (.int .i64 y1)).new w7.heap.size 2 (Nat.ne_of_lt y55_B4) (.int .i64 y2)).alloc _) ((((B5_8.new w7.heap.size 0 (Nat.ne_of_lt y55_B5) (.int .i64 y0)).new w7.heap.size 1 (Nat.ne_of_lt y55_B5) (.int .i64 y1)).new w7.heap.size 2 (Nat.ne_of_lt y55_B5) (.int .i64 y2)).alloc _) (Arr_at _ _ [.int .i64 t0, .int .i64 t1, .int .i64 t2] _ (by simp)) ((((B6_8.put 0 (of_decide_eq_true rfl) (.int .i64 y0) [.int .i64 y0, .int .i64 0, .int .i64 0] rfl).put 1 (of_decide_eq_true rfl) (.int .i64 y1) [.int .i64 y0, .int .i64 y1, .int .i64 0] rfl).put 2 (of_decide_eq_true rfl) (.int .i64 y2) [.int .i64 y0, .int .i64 y1, .int .i64 y2] rfl).alloc _) y56_low y55_low y56_B0 y56_B1 y56_B2 y56_B3 y56_B4 y56_B5 y55_B0 y55_B1 y55_B2 y55_B3 y55_B4 y55_B5 (Nat.ne_of_gt y56_B6)
        · have y57_B0 : w.heap.size < w7.heap.size + 1 := (Nat.lt_succ_of_lt B0_7.lies)
          have y57_B1 : w.heap.size + 1 < w7.heap.size + 1 := (Nat.lt_succ_of_lt B1_7.lies)
          have y57_B2 : w1.heap.size < w7.heap.size + 1 := (Nat.lt_succ_of_lt f7.lies)
          have y57_B3 : w2.heap.size < w7.heap.size + 1 := (Nat.lt_succ_of_lt B3_7.lies)
          have y57_B4 : x1_0 < w7.heap.size + 1 := (Nat.lt_succ_of_lt B4_7.lies)
          have y57_B5 : x1_1 < w7.heap.size + 1 := (Nat.lt_succ_of_lt B5_7.lies)
          have y57_B6 : w7.heap.size < w7.heap.size + 1 := (Nat.lt_succ_self _)
          have y57_low : w.heap.size ≤ w7.heap.size + 1 := (Nat.le_succ_of_le K7.size)
          go_simp
          clear hHeld
          refine hK.out _ _ ⟨((B3_7.alloc _).alloc _), ((B4_7.alloc _).alloc _), ((B5_7.alloc _).alloc _)⟩ (fun hHeld => ?_)
          clear hK K
          refine call_at (i := 7) (by kernel_rfl) rfl (fun K hK => ?_)
          go_simp
          refine (qTurn_any w1.heap.size false (o0, o1, o2, o3) (b0, b1, b2) _ ((f7.alloc _).alloc _)).mono ?_
          rintro e w8 ⟨rfl, f8, k8⟩
          rw [hy] at f8 ⊢
          dsimp only at f8 ⊢
          have K8 : Below w.heap.size w w8 := k8.on (bel_al (bel_al K7 _) _) (by omega)
          have B0_8 : Arr w.heap.size [.int .i64 q.1, .int .i64 q.2.1, .int .i64 q.2.2.1, .int .i64 q.2.2.2] w8 := ((B0_7.alloc _).alloc _).kept k8 (Nat.ne_of_lt y46_B0)
          have B1_8 : Arr (w.heap.size + 1) [.int .i64 p.1, .int .i64 p.2.1, .int .i64 p.2.2.1, .int .i64 p.2.2.2.1, .int .i64 p.2.2.2.2.1, .int .i64 p.2.2.2.2.2] w8 := ((B1_7.alloc _).alloc _).kept k8 (Nat.ne_of_lt y46_B1)
          have B3_8 : Arr w2.heap.size [.int .i64 o0, .int .i64 o1, .int .i64 o2, .int .i64 o3] w8 := ((B3_7.alloc _).alloc _).kept k8 (Nat.ne_of_gt y47_B2)
          have B4_8 : Arr x1_0 [.int .i64 a0, .int .i64 a1, .int .i64 a2] w8 := ((B4_7.alloc _).alloc _).kept k8 (Nat.ne_of_gt s1_4)
          have B5_8 : Arr x1_1 [.int .i64 b0, .int .i64 b1, .int .i64 b2] w8 := ((B5_7.alloc _).alloc _).kept k8 (Nat.ne_of_gt s1_8)
          have B6_8 : Arr w7.heap.size [.int .i64 0, .int .i64 0, .int .i64 0] w8 := ((Arr_at _ _ [.int .i64 0, .int .i64 0, .int .i64 0] _ (by simp)).alloc _).kept k8 (Nat.ne_of_gt y55_B2)
          have B7_8 : Arr (w7.heap.size + 1) [.int .i64 0, .int .i64 0, .int .i64 0] w8 := (Arr_at _ _ [.int .i64 0, .int .i64 0, .int .i64 0] _ (by simp)).kept k8 (Nat.ne_of_gt y57_B2)
          have z8 := B7_8.lies
          have z8_B4 := B4_8.lies
          have z8_B5 := B5_8.lies
          clear hHeld
          refine hK.out _ _ ⟨B3_8, B4_8, B5_8⟩ (fun hHeld => ?_)
          clear hK K K7 B0_7 B1_7 f7 B3_7 B4_7 B5_7 k8
          refine call_at (i := 10) (by kernel_rfl) rfl (fun K hK => ?_)
          have c9_B7_0 : w8.cell? ⟨w7.heap.size + 1, 0, none⟩ = some (.int .i64 0) := B7_8.c 0 (of_decide_eq_true rfl)
          have c9_B7_1 : w8.cell? ⟨w7.heap.size + 1, 1, none⟩ = some (.int .i64 0) := B7_8.c 1 (of_decide_eq_true rfl)
          have c9_B7_2 : w8.cell? ⟨w7.heap.size + 1, 2, none⟩ = some (.int .i64 0) := B7_8.c 2 (of_decide_eq_true rfl)
          have g9_B7_0 := B7_8.f 0 (of_decide_eq_true rfl)
          have g9_B7_1 := B7_8.f 1 (of_decide_eq_true rfl)
          have g9_B7_2 := B7_8.f 2 (of_decide_eq_true rfl)
          go_simp
          clear hHeld
          refine hK.out _ _ ⟨(((B3_8.new (w7.heap.size + 1) 0 (Nat.ne_of_lt y57_B3) (.int .i64 t0)).new (w7.heap.size + 1) 1 (Nat.ne_of_lt y57_B3) (.int .i64 t1)).new (w7.heap.size + 1) 2 (Nat.ne_of_lt y57_B3) (.int .i64 t2)), (((B4_8.new (w7.heap.size + 1) 0 (Nat.ne_of_lt y57_B4) (.int .i64 t0)).new (w7.heap.size + 1) 1 (Nat.ne_of_lt y57_B4) (.int .i64 t1)).new (w7.heap.size + 1) 2 (Nat.ne_of_lt y57_B4) (.int .i64 t2)), (((B5_8.new (w7.heap.size + 1) 0 (Nat.ne_of_lt y57_B5) (.int .i64 t0)).new (w7.heap.size + 1) 1 (Nat.ne_of_lt y57_B5) (.int .i64 t1)).new (w7.heap.size + 1) 2 (Nat.ne_of_lt y57_B5) (.int .i64 t2))⟩ (fun hHeld => ?_)
          clear hK K c9_B7_0 c9_B7_1 c9_B7_2 g9_B7_0 g9_B7_1 g9_B7_2
          refine call_at (i := 11) (by kernel_rfl) rfl (fun K hK => ?_)
          have c10_B6_0 : w8.cell? ⟨w7.heap.size, 0, none⟩ = some (.int .i64 0) := B6_8.c 0 (of_decide_eq_true rfl)
          have c10_B6_1 : w8.cell? ⟨w7.heap.size, 1, none⟩ = some (.int .i64 0) := B6_8.c 1 (of_decide_eq_true rfl)
          have c10_B6_2 : w8.cell? ⟨w7.heap.size, 2, none⟩ = some (.int .i64 0) := B6_8.c 2 (of_decide_eq_true rfl)
          have g10_B6_0 := B6_8.f 0 (of_decide_eq_true rfl)
          have g10_B6_1 := B6_8.f 1 (of_decide_eq_true rfl)
          have g10_B6_2 := B6_8.f 2 (of_decide_eq_true rfl)
          go_simp
          clear hHeld
          refine hK.out _ _ ⟨((((((B3_8.new (w7.heap.size + 1) 0 (Nat.ne_of_lt y57_B3) (.int .i64 t0)).new (w7.heap.size + 1) 1 (Nat.ne_of_lt y57_B3) (.int .i64 t1)).new (w7.heap.size + 1) 2 (Nat.ne_of_lt y57_B3) (.int .i64 t2)).new w7.heap.size 0 (Nat.ne_of_lt y55_B3) (.int .i64 y0)).new w7.heap.size 1 (Nat.ne_of_lt y55_B3) (.int .i64 y1)).new w7.heap.size 2 (Nat.ne_of_lt y55_B3) (.int .i64 y2)), ((((((B4_8.new (w7.heap.size + 1) 0 (Nat.ne_of_lt y57_B4) (.int .i64 t0)).new (w7.heap.size + 1) 1 (Nat.ne_of_lt y57_B4) (.int .i64 t1)).new (w7.heap.size + 1) 2 (Nat.ne_of_lt y57_B4) (.int .i64 t2)).new w7.heap.size 0 (Nat.ne_of_lt y55_B4) (.int .i64 y0)).new w7.heap.size 1 (Nat.ne_of_lt y55_B4) (.int .i64 y1)).new w7.heap.size 2 (Nat.ne_of_lt y55_B4) (.int .i64 y2)), ((((((B5_8.new (w7.heap.size + 1) 0 (Nat.ne_of_lt y57_B5) (.int .i64 t0)).new (w7.heap.size + 1) 1 (Nat.ne_of_lt y57_B5) (.int .i64 t1)).new (w7.heap.size + 1) 2 (Nat.ne_of_lt y57_B5) (.int .i64 t2)).new w7.heap.size 0 (Nat.ne_of_lt y55_B5) (.int .i64 y0)).new w7.heap.size 1 (Nat.ne_of_lt y55_B5) (.int .i64 y1)).new w7.heap.size 2 (Nat.ne_of_lt y55_B5) (.int .i64 y2))⟩ (fun hHeld => ?_)
          clear hK K c10_B6_0 c10_B6_1 c10_B6_2 g10_B6_0 g10_B6_1 g10_B6_2
          refine wpAnyH_done (by kernel_rfl) ?_ _
          clear hHeld
          exact cont2 _ _ _ _ _ _ _ _ _ _ _ _ _ _ _ _ _ _ _ _ _ _ _ _ _ _ _ _ _ _ _ _ _ _ _ _ _ _ _ _ (w7.heap.size + 1) w7.heap.size (bel_new (bel_new (bel_new (bel_new (bel_new (bel_new K8 _ _ y57_low _) _ _ y57_low _) _ _ y57_low _) _ _ y55_low _) _ _ y55_low _) _ _ y55_low _) ((((((B0_8.new (w7.heap.size + 1) 0 (Nat.ne_of_lt y57_B0) (.int .i64 t0)).new (w7.heap.size + 1) 1 (Nat.ne_of_lt y57_B0) (.int .i64 t1)).new (w7.heap.size + 1) 2 (Nat.ne_of_lt y57_B0) (.int .i64 t2)).new w7.heap.size 0 (Nat.ne_of_lt y55_B0) (.int .i64 y0)).new w7.heap.size 1 (Nat.ne_of_lt y55_B0) (.int .i64 y1)).new w7.heap.size 2 (Nat.ne_of_lt y55_B0) (.int .i64 y2)) ((((((B1_8.new (w7.heap.size + 1) 0 (Nat.ne_of_lt y57_B1) (.int .i64 t0)).new (w7.heap.size + 1) 1 (Nat.ne_of_lt y57_B1) (.int .i64 t1)).new (w7.heap.size + 1) 2 (Nat.ne_of_lt y57_B1) (.int .i64 t2)).new w7.heap.size 0 (Nat.ne_of_lt y55_B1) (.int .i64 y0)).new w7.heap.size 1 (Nat.ne_of_lt y55_B1) (.int .i64 y1)).new w7.heap.size 2 (Nat.ne_of_lt y55_B1) (.int .i64 y2)) ((((((f8.new (w7.heap.size + 1) 0 (Nat.ne_of_lt y57_B2) (.int .i64 t0)).new (w7.heap.size + 1) 1 (Nat.ne_of_lt y57_B2) (.int .i64 t1)).new (w7.heap.size + 1) 2 (Nat.ne_of_lt y57_B2) (.int .i64 t2)).new w7.heap.size 0 (Nat.ne_of_lt y55_B2) (.int .i64 y0)).new w7.heap.size 1 (Nat.ne_of_lt y55_B2) (.int .i64 y1)).new w7.heap.size 2 (Nat.ne_of_lt y55_B2) (.int .i64 y2)) ((((((B3_8.new (w7.heap.size + 1) 0 (Nat.ne_of_lt y57_B3) (.int .i64 t0)).new (w7.heap.size + 1) 1 (Nat.ne_of_lt y57_B3) (.int .i64 t1)).new (w7.heap.size + 1) 2 (Nat.ne_of_lt y57_B3) (.int .i64 t2)).new w7.heap.size 0 (Nat.ne_of_lt y55_B3) (.int .i64 y0)).new w7.heap.size 1 (Nat.ne_of_lt y55_B3) (.int .i64 y1)).new w7.heap.size 2 (Nat.ne_of_lt y55_B3) (.int .i64 y2)) ((((((B4_8.new (w7.heap.size + 1) 0 (Nat.ne_of_lt y57_B4) (.int .i64 t0)).new (w7.heap.size + 1) 1 (Nat.ne_of_lt y57_B4) (.int .i64 t1)).new (w7.heap.size + 1) 2 (Nat.ne_of_lt y57_B4) (.int .i64 t2)).new w7.heap.size 0 (Nat.ne_of_lt y55_B4) (.int .i64 y0)).new w7.heap.size 1 (Nat.ne_of_lt y55_B4) (.int .i64 y1)).new w7.heap.size 2 (Nat.ne_of_lt y55_B4) (.int .i64 y2)) ((((((B5_8.new (w7.heap.size + 1) 0 (Nat.ne_of_lt y57_B5) (.int .i64 t0)).new (w7.heap.size + 1) 1 (Nat.ne_of_lt y57_B5) (.int .i64 t1)).new (w7.heap.size + 1) 2 (Nat.ne_of_lt y57_B5) (.int .i64 t2)).new w7.heap.size 0 (Nat.ne_of_lt y55_B5) (.int .i64 y0)).new w7.heap.size 1 (Nat.ne_of_lt y55_B5) (.int .i64 y1)).new w7.heap.size 2 (Nat.ne_of_lt y55_B5) (.int .i64 y2)) ((((((B7_8.put 0 (of_decide_eq_true rfl) (.int .i64 t0) [.int .i64 t0, .int .i64 0, .int .i64 0] rfl).put 1 (of_decide_eq_true rfl) (.int .i64 t1) [.int .i64 t0, .int .i64 t1, .int .i64 0] rfl).put 2 (of_decide_eq_true rfl) (.int .i64 t2) [.int .i64 t0, .int .i64 t1, .int .i64 t2] rfl).new w7.heap.size 0 (Nat.ne_of_gt y57_B6) (.int .i64 y0)).new w7.heap.size 1 (Nat.ne_of_gt y57_B6) (.int .i64 y1)).new w7.heap.size 2 (Nat.ne_of_gt y57_B6) (.int .i64 y2)) ((((((B6_8.new (w7.heap.size + 1) 0 (Nat.ne_of_lt y57_B6) (.int .i64 t0)).new (w7.heap.size + 1) 1 (Nat.ne_of_lt y57_B6) (.int .i64 t1)).new (w7.heap.size + 1) 2 (Nat.ne_of_lt y57_B6) (.int .i64 t2)).put 0 (of_decide_eq_true rfl) (.int .i64 y0) [.int .i64 y0, .int .i64 0, .int .i64 0] rfl).put 1 (of_decide_eq_true rfl) (.int .i64 y1) [.int .i64 y0, .int .i64 y1, .int .i64 0] rfl).put 2 (of_decide_eq_true rfl) (.int .i64 y2) [.int .i64 y0, .int .i64 y1, .int .i64 y2] rfl) y57_low y55_low y57_B0 y57_B1 y57_B2 y57_B3 y57_B4 y57_B5 y55_B0 y55_B1 y55_B2 y55_B3 y55_B4 y55_B5 (Nat.ne_of_gt y57_B6)
    · have y58_B0 : w.heap.size < W1.heap.size := B0_c1.lies
      have y58_B1 : w.heap.size + 1 < W1.heap.size := B1_c1.lies
      have y58_B2 : w1.heap.size < W1.heap.size := B2_c1.lies
      have y58_B3 : w2.heap.size < W1.heap.size := B3_c1.lies
      have y58_B4 : x1_0 < W1.heap.size := B4_c1.lies
      have y58_B5 : x1_1 < W1.heap.size := B5_c1.lies
      have y58_low : w.heap.size ≤ W1.heap.size := KC1.size
      go_simp
      clear hHeld
      refine hK.out _ _ ⟨(B3_c1.alloc _).drew, (B4_c1.alloc _).drew, (B5_c1.alloc _).drew⟩ (fun hHeld => ?_)
      clear hK K
      refine call_at2 (i0 := 3) (i1 := 9) (by kernel_rfl) rfl rfl (fun K hK => ?_) (fun K hK => ?_)
      · go_simp
        refine (qTurn_any w1.heap.size false (o0, o1, o2, o3) (a0, a1, a2) _ (B2_c1.alloc _).drew).mono ?_
        rintro e w7 ⟨rfl, f7, k7⟩
        rw [ht] at f7 ⊢
        dsimp only at f7 ⊢
        have K7 : Below w.heap.size w w7 := k7.on (Below.drew (bel_al KC1 _)) (by omega)
        have B0_7 : Arr w.heap.size [.int .i64 q.1, .int .i64 q.2.1, .int .i64 q.2.2.1, .int .i64 q.2.2.2] w7 := (B0_c1.alloc _).drew.kept k7 (Nat.ne_of_lt y46_B0)
        have B1_7 : Arr (w.heap.size + 1) [.int .i64 p.1, .int .i64 p.2.1, .int .i64 p.2.2.1, .int .i64 p.2.2.2.1, .int .i64 p.2.2.2.2.1, .int .i64 p.2.2.2.2.2] w7 := (B1_c1.alloc _).drew.kept k7 (Nat.ne_of_lt y46_B1)
        have B3_7 : Arr w2.heap.size [.int .i64 o0, .int .i64 o1, .int .i64 o2, .int .i64 o3] w7 := (B3_c1.alloc _).drew.kept k7 (Nat.ne_of_gt y47_B2)
        have B4_7 : Arr x1_0 [.int .i64 a0, .int .i64 a1, .int .i64 a2] w7 := (B4_c1.alloc _).drew.kept k7 (Nat.ne_of_gt s1_4)
        have B5_7 : Arr x1_1 [.int .i64 b0, .int .i64 b1, .int .i64 b2] w7 := (B5_c1.alloc _).drew.kept k7 (Nat.ne_of_gt s1_8)
        have B6_7 : Arr W1.heap.size [.int .i64 0, .int .i64 0, .int .i64 0] w7 := (Arr_at _ _ [.int .i64 0, .int .i64 0, .int .i64 0] _ (by simp)).drew.kept k7 (Nat.ne_of_gt y58_B2)
        have z7 := B6_7.lies
        have z7_B4 := B4_7.lies
        have z7_B5 := B5_7.lies
        clear hHeld
        refine hK.out _ _ ⟨B3_7, B4_7, B5_7⟩ (fun hHeld => ?_)
        clear hK K B0_c1 B1_c1 B2_c1 B3_c1 B4_c1 B5_c1 k7
        refine call_at2 (i0 := 7) (i1 := 9) (by kernel_rfl) rfl rfl (fun K hK => ?_) (fun K hK => ?_)
        · go_simp
          refine (qTurn_any w1.heap.size false (o0, o1, o2, o3) (b0, b1, b2) _ f7).mono ?_
          rintro e w8 ⟨rfl, f8, k8⟩
          rw [hy] at f8 ⊢
          dsimp only at f8 ⊢
          have K8 : Below w.heap.size w w8 := k8.on K7 (by omega)
          have B0_8 : Arr w.heap.size [.int .i64 q.1, .int .i64 q.2.1, .int .i64 q.2.2.1, .int .i64 q.2.2.2] w8 := B0_7.kept k8 (Nat.ne_of_lt y46_B0)
          have B1_8 : Arr (w.heap.size + 1) [.int .i64 p.1, .int .i64 p.2.1, .int .i64 p.2.2.1, .int .i64 p.2.2.2.1, .int .i64 p.2.2.2.2.1, .int .i64 p.2.2.2.2.2] w8 := B1_7.kept k8 (Nat.ne_of_lt y46_B1)
          have B3_8 : Arr w2.heap.size [.int .i64 o0, .int .i64 o1, .int .i64 o2, .int .i64 o3] w8 := B3_7.kept k8 (Nat.ne_of_gt y47_B2)
          have B4_8 : Arr x1_0 [.int .i64 a0, .int .i64 a1, .int .i64 a2] w8 := B4_7.kept k8 (Nat.ne_of_gt s1_4)
          have B5_8 : Arr x1_1 [.int .i64 b0, .int .i64 b1, .int .i64 b2] w8 := B5_7.kept k8 (Nat.ne_of_gt s1_8)
          have B6_8 : Arr W1.heap.size [.int .i64 0, .int .i64 0, .int .i64 0] w8 := B6_7.kept k8 (Nat.ne_of_gt y58_B2)
          have z8 := B6_8.lies
          have z8_B4 := B4_8.lies
          have z8_B5 := B5_8.lies
          clear hHeld
          refine hK.out _ _ ⟨B3_8, B4_8, B5_8⟩ (fun hHeld => ?_)
          clear hK K K7 B0_7 B1_7 f7 B3_7 B4_7 B5_7 B6_7 k8
          refine call_at (i := 9) (by kernel_rfl) rfl (fun K hK => ?_)
          have y59_B0 : w.heap.size < w8.heap.size := B0_8.lies
          have y59_B1 : w.heap.size + 1 < w8.heap.size := B1_8.lies
          have y59_B2 : w1.heap.size < w8.heap.size := f8.lies
          have y59_B3 : w2.heap.size < w8.heap.size := B3_8.lies
          have y59_B4 : x1_0 < w8.heap.size := B4_8.lies
          have y59_B5 : x1_1 < w8.heap.size := B5_8.lies
          have y59_B6 : W1.heap.size < w8.heap.size := B6_8.lies
          have y59_low : w.heap.size ≤ w8.heap.size := K8.size
          go_simp
          clear hHeld
          refine hK.out _ _ ⟨(B3_8.alloc _), (B4_8.alloc _), (B5_8.alloc _)⟩ (fun hHeld => ?_)
          clear hK K
          refine call_at (i := 10) (by kernel_rfl) rfl (fun K hK => ?_)
          have c9_B6_0 : w8.cell? ⟨W1.heap.size, 0, none⟩ = some (.int .i64 0) := B6_8.c 0 (of_decide_eq_true rfl)
          have c9_B6_1 : w8.cell? ⟨W1.heap.size, 1, none⟩ = some (.int .i64 0) := B6_8.c 1 (of_decide_eq_true rfl)
          have c9_B6_2 : w8.cell? ⟨W1.heap.size, 2, none⟩ = some (.int .i64 0) := B6_8.c 2 (of_decide_eq_true rfl)
          have g9_B6_0 := B6_8.f 0 (of_decide_eq_true rfl)
          have g9_B6_1 := B6_8.f 1 (of_decide_eq_true rfl)
          have g9_B6_2 := B6_8.f 2 (of_decide_eq_true rfl)
          have l9_B6 := B6_8.lies
          go_simp
          clear hHeld
          refine hK.out _ _ ⟨((((B3_8.new W1.heap.size 0 (Nat.ne_of_lt y58_B3) (.int .i64 t0)).new W1.heap.size 1 (Nat.ne_of_lt y58_B3) (.int .i64 t1)).new W1.heap.size 2 (Nat.ne_of_lt y58_B3) (.int .i64 t2)).alloc _), ((((B4_8.new W1.heap.size 0 (Nat.ne_of_lt y58_B4) (.int .i64 t0)).new W1.heap.size 1 (Nat.ne_of_lt y58_B4) (.int .i64 t1)).new W1.heap.size 2 (Nat.ne_of_lt y58_B4) (.int .i64 t2)).alloc _), ((((B5_8.new W1.heap.size 0 (Nat.ne_of_lt y58_B5) (.int .i64 t0)).new W1.heap.size 1 (Nat.ne_of_lt y58_B5) (.int .i64 t1)).new W1.heap.size 2 (Nat.ne_of_lt y58_B5) (.int .i64 t2)).alloc _)⟩ (fun hHeld => ?_)
          clear hK K c9_B6_0 c9_B6_1 c9_B6_2 g9_B6_0 g9_B6_1 g9_B6_2 l9_B6
          refine call_at (i := 11) (by kernel_rfl) rfl (fun K hK => ?_)
          go_simp
          clear hHeld
          refine hK.out _ _ ⟨((((B3_8.new W1.heap.size 0 (Nat.ne_of_lt y58_B3) (.int .i64 t0)).new W1.heap.size 1 (Nat.ne_of_lt y58_B3) (.int .i64 t1)).new W1.heap.size 2 (Nat.ne_of_lt y58_B3) (.int .i64 t2)).alloc _), ((((B4_8.new W1.heap.size 0 (Nat.ne_of_lt y58_B4) (.int .i64 t0)).new W1.heap.size 1 (Nat.ne_of_lt y58_B4) (.int .i64 t1)).new W1.heap.size 2 (Nat.ne_of_lt y58_B4) (.int .i64 t2)).alloc _), ((((B5_8.new W1.heap.size 0 (Nat.ne_of_lt y58_B5) (.int .i64 t0)).new W1.heap.size 1 (Nat.ne_of_lt y58_B5) (.int .i64 t1)).new W1.heap.size 2 (Nat.ne_of_lt y58_B5) (.int .i64 t2)).alloc _)⟩ (fun hHeld => ?_)
          clear hK K
          refine wpAnyH_done (by kernel_rfl) ?_ _
          clear hHeld
          exact cont2 _ _ _ _ _ _ _ _ _ _ _ _ _ _ _ _ _ _ _ _ _ _ _ _ _ _ _ _ _ _ _ _ _ _ _ _ _ _ _ _ W1.heap.size w8.heap.size (bel_al (bel_new (bel_new (bel_new K8 _ _ y58_low _) _ _ y58_low _) _ _ y58_low _) _) ((((B0_8.new W1.heap.size 0 (Nat.ne_of_lt y58_B0) (.int .i64 t0)).new W1.heap.size 1 (Nat.ne_of_lt y58_B0) (.int .i64 t1)).new W1.heap.size 2 (Nat.ne_of_lt y58_B0) (.int .i64 t2)).alloc _) ((((B1_8.new W1.heap.size 0 (Nat.ne_of_lt y58_B1) (.int .i64 t0)).new W1.heap.size 1 (Nat.ne_of_lt y58_B1) (.int .i64 t1)).new W1.heap.size 2 (Nat.ne_of_lt y58_B1) (.int .i64 t2)).alloc _) ((((f8.new W1.heap.size 0 (Nat.ne_of_lt y58_B2) (.int .i64 t0)).new W1.heap.size 1 (Nat.ne_of_lt y58_B2) (.int .i64 t1)).new W1.heap.size 2 (Nat.ne_of_lt y58_B2) (.int .i64 t2)).alloc _) ((((B3_8.new W1.heap.size 0 (Nat.ne_of_lt y58_B3) (.int .i64 t0)).new W1.heap.size 1 (Nat.ne_of_lt y58_B3) (.int .i64 t1)).new W1.heap.size 2 (Nat.ne_of_lt y58_B3) (.int .i64 t2)).alloc _) ((((B4_8.new W1.heap.size 0 (Nat.ne_of_lt y58_B4) (.int .i64 t0)).new W1.heap.size 1 (Nat.ne_of_lt y58_B4) (.int .i64 t1)).new W1.heap.size 2 (Nat.ne_of_lt y58_B4) (.int .i64 t2)).alloc _) ((((B5_8.new W1.heap.size 0 (Nat.ne_of_lt y58_B5) (.int .i64 t0)).new W1.heap.size 1 (Nat.ne_of_lt y58_B5) (.int .i64 t1)).new W1.heap.size 2 (Nat.ne_of_lt y58_B5) (.int .i64 t2)).alloc _) ((((B6_8.put 0 (of_decide_eq_true rfl) (.int .i64 t0) [.int .i64 t0, .int .i64 0, .int .i64 0] rfl).put 1 (of_decide_eq_true rfl) (.int .i64 t1) [.int .i64 t0, .int .i64 t1, .int .i64 0] rfl).put 2 (of_decide_eq_true rfl) (.int .i64 t2) [.int .i64 t0, .int .i64 t1, .int .i64 t2] rfl).alloc _) (Arr_at _ _ [.int .i64 y0, .int .i64 y1, .int .i64 y2] _ (by simp)) y58_low y59_low y58_B0 y58_B1 y58_B2 y58_B3 y58_B4 y58_B5 y59_B0 y59_B1 y59_B2 y59_B3 y59_B4 y59_B5 (Nat.ne_of_lt y59_B6)
        · have y60_B0 : w.heap.size < w7.heap.size := B0_7.lies
          have y60_B1 : w.heap.size + 1 < w7.heap.size := B1_7.lies
          have y60_B2 : w1.heap.size < w7.heap.size := f7.lies
          have y60_B3 : w2.heap.size < w7.heap.size := B3_7.lies
          have y60_B4 : x1_0 < w7.heap.size := B4_7.lies
          have y60_B5 : x1_1 < w7.heap.size := B5_7.lies
          have y60_B6 : W1.heap.size < w7.heap.size := B6_7.lies
          have y60_low : w.heap.size ≤ w7.heap.size := K7.size
          go_simp
          clear hHeld
          refine hK.out _ _ ⟨(B3_7.alloc _), (B4_7.alloc _), (B5_7.alloc _)⟩ (fun hHeld => ?_)
          clear hK K
          refine call_at (i := 7) (by kernel_rfl) rfl (fun K hK => ?_)
          go_simp
          refine (qTurn_any w1.heap.size false (o0, o1, o2, o3) (b0, b1, b2) _ (f7.alloc _)).mono ?_
          rintro e w8 ⟨rfl, f8, k8⟩
          rw [hy] at f8 ⊢
          dsimp only at f8 ⊢
          have K8 : Below w.heap.size w w8 := k8.on (bel_al K7 _) (by omega)
          have B0_8 : Arr w.heap.size [.int .i64 q.1, .int .i64 q.2.1, .int .i64 q.2.2.1, .int .i64 q.2.2.2] w8 := (B0_7.alloc _).kept k8 (Nat.ne_of_lt y46_B0)
          have B1_8 : Arr (w.heap.size + 1) [.int .i64 p.1, .int .i64 p.2.1, .int .i64 p.2.2.1, .int .i64 p.2.2.2.1, .int .i64 p.2.2.2.2.1, .int .i64 p.2.2.2.2.2] w8 := (B1_7.alloc _).kept k8 (Nat.ne_of_lt y46_B1)
          have B3_8 : Arr w2.heap.size [.int .i64 o0, .int .i64 o1, .int .i64 o2, .int .i64 o3] w8 := (B3_7.alloc _).kept k8 (Nat.ne_of_gt y47_B2)
          have B4_8 : Arr x1_0 [.int .i64 a0, .int .i64 a1, .int .i64 a2] w8 := (B4_7.alloc _).kept k8 (Nat.ne_of_gt s1_4)
          have B5_8 : Arr x1_1 [.int .i64 b0, .int .i64 b1, .int .i64 b2] w8 := (B5_7.alloc _).kept k8 (Nat.ne_of_gt s1_8)
          have B6_8 : Arr W1.heap.size [.int .i64 0, .int .i64 0, .int .i64 0] w8 := (B6_7.alloc _).kept k8 (Nat.ne_of_gt y58_B2)
          have B7_8 : Arr w7.heap.size [.int .i64 0, .int .i64 0, .int .i64 0] w8 := (Arr_at _ _ [.int .i64 0, .int .i64 0, .int .i64 0] _ (by simp)).kept k8 (Nat.ne_of_gt y60_B2)
          have z8 := B7_8.lies
          have z8_B4 := B4_8.lies
          have z8_B5 := B5_8.lies
          clear hHeld
          refine hK.out _ _ ⟨B3_8, B4_8, B5_8⟩ (fun hHeld => ?_)
          clear hK K K7 B0_7 B1_7 f7 B3_7 B4_7 B5_7 B6_7 k8
          refine call_at (i := 10) (by kernel_rfl) rfl (fun K hK => ?_)
          have c9_B6_0 : w8.cell? ⟨W1.heap.size, 0, none⟩ = some (.int .i64 0) := B6_8.c 0 (of_decide_eq_true rfl)
          have c9_B6_1 : w8.cell? ⟨W1.heap.size, 1, none⟩ = some (.int .i64 0) := B6_8.c 1 (of_decide_eq_true rfl)
          have c9_B6_2 : w8.cell? ⟨W1.heap.size, 2, none⟩ = some (.int .i64 0) := B6_8.c 2 (of_decide_eq_true rfl)
          have g9_B6_0 := B6_8.f 0 (of_decide_eq_true rfl)
          have g9_B6_1 := B6_8.f 1 (of_decide_eq_true rfl)
          have g9_B6_2 := B6_8.f 2 (of_decide_eq_true rfl)
          go_simp
          clear hHeld
          refine hK.out _ _ ⟨(((B3_8.new W1.heap.size 0 (Nat.ne_of_lt y58_B3) (.int .i64 t0)).new W1.heap.size 1 (Nat.ne_of_lt y58_B3) (.int .i64 t1)).new W1.heap.size 2 (Nat.ne_of_lt y58_B3) (.int .i64 t2)), (((B4_8.new W1.heap.size 0 (Nat.ne_of_lt y58_B4) (.int .i64 t0)).new W1.heap.size 1 (Nat.ne_of_lt y58_B4) (.int .i64 t1)).new W1.heap.size 2 (Nat.ne_of_lt y58_B4) (.int .i64 t2)), (((B5_8.new W1.heap.size 0 (Nat.ne_of_lt y58_B5) (.int .i64 t0)).new W1.heap.size 1 (Nat.ne_of_lt y58_B5) (.int .i64 t1)).new W1.heap.size 2 (Nat.ne_of_lt y58_B5) (.int .i64 t2))⟩ (fun hHeld => ?_)
          clear hK K c9_B6_0 c9_B6_1 c9_B6_2 g9_B6_0 g9_B6_1 g9_B6_2
          refine call_at (i := 11) (by kernel_rfl) rfl (fun K hK => ?_)
          have c10_B7_0 : w8.cell? ⟨w7.heap.size, 0, none⟩ = some (.int .i64 0) := B7_8.c 0 (of_decide_eq_true rfl)
          have c10_B7_1 : w8.cell? ⟨w7.heap.size, 1, none⟩ = some (.int .i64 0) := B7_8.c 1 (of_decide_eq_true rfl)
          have c10_B7_2 : w8.cell? ⟨w7.heap.size, 2, none⟩ = some (.int .i64 0) := B7_8.c 2 (of_decide_eq_true rfl)
          have g10_B7_0 := B7_8.f 0 (of_decide_eq_true rfl)
          have g10_B7_1 := B7_8.f 1 (of_decide_eq_true rfl)
          have g10_B7_2 := B7_8.f 2 (of_decide_eq_true rfl)
          go_simp
          clear hHeld
          refine hK.out _ _ ⟨((((((B3_8.new W1.heap.size 0 (Nat.ne_of_lt y58_B3) (.int .i64 t0)).new W1.heap.size 1 (Nat.ne_of_lt y58_B3) (.int .i64 t1)).new W1.heap.size 2 (Nat.ne_of_lt y58_B3) (.int .i64 t2)).new w7.heap.size 0 (Nat.ne_of_lt y60_B3) (.int .i64 y0)).new w7.heap.size 1 (Nat.ne_of_lt y60_B3) (.int .i64 y1)).new w7.heap.size 2 (Nat.ne_of_lt y60_B3) (.int .i64 y2)), ((((((B4_8.new W1.heap.size 0 (Nat.ne_of_lt y58_B4) (.int .i64 t0)).new W1.heap.size 1 (Nat.ne_of_lt y58_B4) (.int .i64 t1)).new W1.heap.size 2 (Nat.ne_of_lt y58_B4) (.int .i64 t2)).new w7.heap.size 0 (Nat.ne_of_lt y60_B4) (.int .i64 y0)).new w7.heap.size 1 (Nat.ne_of_lt y60_B4) (.int .i64 y1)).new w7.heap.size 2 (Nat.ne_of_lt y60_B4) (.int .i64 y2)), ((((((B5_8.new W1.heap.size 0 (Nat.ne_of_lt y58_B5) (.int .i64 t0)).new W1.heap.size 1 (Nat.ne_of_lt y58_B5) (.int .i64 t1)).new W1.heap.size 2 (Nat.ne_of_lt y58_B5) (.int .i64 t2)).new w7.heap.size 0 (Nat.ne_of_lt y60_B5) (.int .i64 y0)).new w7.heap.size 1 (Nat.ne_of_lt y60_B5) (.int .i64 y1)).new w7.heap.size 2 (Nat.ne_of_lt y60_B5) (.int .i64 y2))⟩ (fun hHeld => ?_)
          clear hK K c10_B7_0 c10_B7_1 c10_B7_2 g10_B7_0 g10_B7_1 g10_B7_2
          refine wpAnyH_done (by kernel_rfl) ?_ _
          clear hHeld
          exact cont2 _ _ _ _ _ _ _ _ _ _ _ _ _ _ _ _ _ _ _ _ _ _ _ _ _ _ _ _ _ _ _ _ _ _ _ _ _ _ _ _ W1.heap.size w7.heap.size (bel_new (bel_new (bel_new (bel_new (bel_new (bel_new K8 _ _ y58_low _) _ _ y58_low _) _ _ y58_low _) _ _ y60_low _) _ _ y60_low _) _ _ y60_low _) ((((((B0_8.new W1.heap.size 0 (Nat.ne_of_lt y58_B0) (.int .i64 t0)).new W1.heap.size 1 (Nat.ne_of_lt y58_B0) (.int .i64 t1)).new W1.heap.size 2 (Nat.ne_of_lt y58_B0) (.int .i64 t2)).new w7.heap.size 0 (Nat.ne_of_lt y60_B0) (.int .i64 y0)).new w7.heap.size 1 (Nat.ne_of_lt y60_B0) (.int .i64 y1)).new w7.heap.size 2 (Nat.ne_of_lt y60_B0) (.int .i64 y2)) ((((((B1_8.new W1.heap.size 0 (Nat.ne_of_lt y58_B1) (.int .i64 t0)).new W1.heap.size 1 (Nat.ne_of_lt y58_B1) (.int .i64 t1)).new W1.heap.size 2 (Nat.ne_of_lt y58_B1) (.int .i64 t2)).new w7.heap.size 0 (Nat.ne_of_lt y60_B1) (.int .i64 y0)).new w7.heap.size 1 (Nat.ne_of_lt y60_B1) (.int .i64 y1)).new w7.heap.size 2 (Nat.ne_of_lt y60_B1) (.int .i64 y2)) ((((((f8.new W1.heap.size 0 (Nat.ne_of_lt y58_B2) (.int .i64 t0)).new W1.heap.size 1 (Nat.ne_of_lt y58_B2) (.int .i64 t1)).new W1.heap.size 2 (Nat.ne_of_lt y58_B2) (.int .i64 t2)).new w7.heap.size 0 (Nat.ne_of_lt y60_B2) (.int .i64 y0)).new w7.heap.size 1 (Nat.ne_of_lt y60_B2) (.int .i64 y1)).new w7.heap.size 2 (Nat.ne_of_lt y60_B2) (.int .i64 y2)) ((((((B3_8.new W1.heap.size 0 (Nat.ne_of_lt y58_B3) (.int .i64 t0)).new W1.heap.size 1 (Nat.ne_of_lt y58_B3) (.int .i64 t1)).new W1.heap.size 2 (Nat.ne_of_lt y58_B3) (.int .i64 t2)).new w7.heap.size 0 (Nat.ne_of_lt y60_B3) (.int .i64 y0)).new w7.heap.size 1 (Nat.ne_of_lt y60_B3) (.int .i64 y1)).new w7.heap.size 2 (Nat.ne_of_lt y60_B3) (.int .i64 y2)) ((((((B4_8.new W1.heap.size 0 (Nat.ne_of_lt y58_B4) (.int .i64 t0)).new W1.heap.size 1 (Nat.ne_of_lt y58_B4) (.int .i64 t1)).new W1.heap.size 2 (Nat.ne_of_lt y58_B4) (.int .i64 t2)).new w7.heap.size 0 (Nat.ne_of_lt y60_B4) (.int .i64 y0)).new w7.heap.size 1 (Nat.ne_of_lt y60_B4) (.int .i64 y1)).new w7.heap.size 2 (Nat.ne_of_lt y60_B4) (.int .i64 y2)) ((((((B5_8.new W1.heap.size 0 (Nat.ne_of_lt y58_B5) (.int .i64 t0)).new W1.heap.size 1 (Nat.ne_of_lt y58_B5) (.int .i64 t1)).new W1.heap.size 2 (Nat.ne_of_lt y58_B5) (.int .i64 t2)).new w7.heap.size 0 (Nat.ne_of_lt y60_B5) (.int .i64 y0)).new w7.heap.size 1 (Nat.ne_of_lt y60_B5) (.int .i64 y1)).new w7.heap.size 2 (Nat.ne_of_lt y60_B5) (.int .i64 y2)) ((((((B6_8.put 0 (of_decide_eq_true rfl) (.int .i64 t0) [.int .i64 t0, .int .i64 0, .int .i64 0] rfl).put 1 (of_decide_eq_true rfl) (.int .i64 t1) [.int .i64 t0, .int .i64 t1, .int .i64 0] rfl).put 2 (of_decide_eq_true rfl) (.int .i64 t2) [.int .i64 t0, .int .i64 t1, .int .i64 t2] rfl).new w7.heap.size 0 (Nat.ne_of_lt y60_B6) (.int .i64 y0)).new w7.heap.size 1 (Nat.ne_of_lt y60_B6) (.int .i64 y1)).new w7.heap.size 2 (Nat.ne_of_lt y60_B6) (.int .i64 y2)) ((((((B7_8.new W1.heap.size 0 (Nat.ne_of_gt y60_B6) (.int .i64 t0)).new W1.heap.size 1 (Nat.ne_of_gt y60_B6) (.int .i64 t1)).new W1.heap.size 2 (Nat.ne_of_gt y60_B6) (.int .i64 t2)).put 0 (of_decide_eq_true rfl) (.int .i64 y0) [.int .i64 y0, .int .i64 0, .int .i64 0] rfl).put 1 (of_decide_eq_true rfl) (.int .i64 y1) [.int .i64 y0, .int .i64 y1, .int .i64 0] rfl).put 2 (of_decide_eq_true rfl) (.int .i64 y2) [.int .i64 y0, .int .i64 y1, .int .i64 y2] rfl) y58_low y60_low y58_B0 y58_B1 y58_B2 y58_B3 y58_B4 y58_B5 y60_B0 y60_B1 y60_B2 y60_B3 y60_B4 y60_B5 (Nat.ne_of_lt y60_B6)
      · have y61_B0 : w.heap.size < W1.heap.size + 1 := (Nat.lt_succ_of_lt B0_c1.lies)
        have y61_B1 : w.heap.size + 1 < W1.heap.size + 1 := (Nat.lt_succ_of_lt B1_c1.lies)
        have y61_B2 : w1.heap.size < W1.heap.size + 1 := (Nat.lt_succ_of_lt B2_c1.lies)
        have y61_B3 : w2.heap.size < W1.heap.size + 1 := (Nat.lt_succ_of_lt B3_c1.lies)
        have y61_B4 : x1_0 < W1.heap.size + 1 := (Nat.lt_succ_of_lt B4_c1.lies)
        have y61_B5 : x1_1 < W1.heap.size + 1 := (Nat.lt_succ_of_lt B5_c1.lies)
        have y61_B6 : W1.heap.size < W1.heap.size + 1 := (Nat.lt_succ_self _)
        have y61_low : w.heap.size ≤ W1.heap.size + 1 := (Nat.le_succ_of_le KC1.size)
        go_simp
        clear hHeld
        refine hK.out _ _ ⟨((B3_c1.alloc _).alloc _).drew, ((B4_c1.alloc _).alloc _).drew, ((B5_c1.alloc _).alloc _).drew⟩ (fun hHeld => ?_)
        clear hK K
        refine call_at (i := 3) (by kernel_rfl) rfl (fun K hK => ?_)
        go_simp
        refine (qTurn_any w1.heap.size false (o0, o1, o2, o3) (a0, a1, a2) _ ((B2_c1.alloc _).alloc _).drew).mono ?_
        rintro e w7 ⟨rfl, f7, k7⟩
        rw [ht] at f7 ⊢
        dsimp only at f7 ⊢
        have K7 : Below w.heap.size w w7 := k7.on (Below.drew (bel_al (bel_al KC1 _) _)) (by omega)
        have B0_7 : Arr w.heap.size [.int .i64 q.1, .int .i64 q.2.1, .int .i64 q.2.2.1, .int .i64 q.2.2.2] w7 := ((B0_c1.alloc _).alloc _).drew.kept k7 (Nat.ne_of_lt y46_B0)
        have B1_7 : Arr (w.heap.size + 1) [.int .i64 p.1, .int .i64 p.2.1, .int .i64 p.2.2.1, .int .i64 p.2.2.2.1, .int .i64 p.2.2.2.2.1, .int .i64 p.2.2.2.2.2] w7 := ((B1_c1.alloc _).alloc _).drew.kept k7 (Nat.ne_of_lt y46_B1)
        have B3_7 : Arr w2.heap.size [.int .i64 o0, .int .i64 o1, .int .i64 o2, .int .i64 o3] w7 := ((B3_c1.alloc _).alloc _).drew.kept k7 (Nat.ne_of_gt y47_B2)
        have B4_7 : Arr x1_0 [.int .i64 a0, .int .i64 a1, .int .i64 a2] w7 := ((B4_c1.alloc _).alloc _).drew.kept k7 (Nat.ne_of_gt s1_4)
        have B5_7 : Arr x1_1 [.int .i64 b0, .int .i64 b1, .int .i64 b2] w7 := ((B5_c1.alloc _).alloc _).drew.kept k7 (Nat.ne_of_gt s1_8)
        have B6_7 : Arr W1.heap.size [.int .i64 0, .int .i64 0, .int .i64 0] w7 := ((Arr_at _ _ [.int .i64 0, .int .i64 0, .int .i64 0] _ (by simp)).alloc _).drew.kept k7 (Nat.ne_of_gt y58_B2)
        have B7_7 : Arr (W1.heap.size + 1) [.int .i64 0, .int .i64 0, .int .i64 0] w7 := (Arr_at _ _ [.int .i64 0, .int .i64 0, .int .i64 0] _ (by simp)).drew.kept k7 (Nat.ne_of_gt y61_B2)
        have z7 := B7_7.lies
        have z7_B4 := B4_7.lies
        have z7_B5 := B5_7.lies
        clear hHeld
        refine hK.out _ _ ⟨B3_7, B4_7, B5_7⟩ (fun hHeld => ?_)
        clear hK K B0_c1 B1_c1 B2_c1 B3_c1 B4_c1 B5_c1 k7
        refine call_at (i := 7) (by kernel_rfl) rfl (fun K hK => ?_)
        go_simp
        refine (qTurn_any w1.heap.size false (o0, o1, o2, o3) (b0, b1, b2) _ f7).mono ?_
        rintro e w8 ⟨rfl, f8, k8⟩
        rw [hy] at f8 ⊢
        dsimp only at f8 ⊢
        have K8 : Below w.heap.size w w8 := k8.on K7 (by omega)
        have B0_8 : Arr w.heap.size [.int .i64 q.1, .int .i64 q.2.1, .int .i64 q.2.2.1, .int .i64 q.2.2.2] w8 := B0_7.kept k8 (Nat.ne_of_lt y46_B0)
        have B1_8 : Arr (w.heap.size + 1) [.int .i64 p.1, .int .i64 p.2.1, .int .i64 p.2.2.1, .int .i64 p.2.2.2.1, .int .i64 p.2.2.2.2.1, .int .i64 p.2.2.2.2.2] w8 := B1_7.kept k8 (Nat.ne_of_lt y46_B1)
        have B3_8 : Arr w2.heap.size [.int .i64 o0, .int .i64 o1, .int .i64 o2, .int .i64 o3] w8 := B3_7.kept k8 (Nat.ne_of_gt y47_B2)
        have B4_8 : Arr x1_0 [.int .i64 a0, .int .i64 a1, .int .i64 a2] w8 := B4_7.kept k8 (Nat.ne_of_gt s1_4)
        have B5_8 : Arr x1_1 [.int .i64 b0, .int .i64 b1, .int .i64 b2] w8 := B5_7.kept k8 (Nat.ne_of_gt s1_8)
        have B6_8 : Arr W1.heap.size [.int .i64 0, .int .i64 0, .int .i64 0] w8 := B6_7.kept k8 (Nat.ne_of_gt y58_B2)
        have B7_8 : Arr (W1.heap.size + 1) [.int .i64 0, .int .i64 0, .int .i64 0] w8 := B7_7.kept k8 (Nat.ne_of_gt y61_B2)
        have z8 := B7_8.lies
        have z8_B4 := B4_8.lies
        have z8_B5 := B5_8.lies
        clear hHeld
        refine hK.out _ _ ⟨B3_8, B4_8, B5_8⟩ (fun hHeld => ?_)
        clear hK K K7 B0_7 B1_7 f7 B3_7 B4_7 B5_7 B6_7 B7_7 k8
        refine call_at (i := 10) (by kernel_rfl) rfl (fun K hK => ?_)
        have c9_B6_0 : w8.cell? ⟨W1.heap.size, 0, none⟩ = some (.int .i64 0) := B6_8.c 0 (of_decide_eq_true rfl)
        have c9_B6_1 : w8.cell? ⟨W1.heap.size, 1, none⟩ = some (.int .i64 0) := B6_8.c 1 (of_decide_eq_true rfl)
        have c9_B6_2 : w8.cell? ⟨W1.heap.size, 2, none⟩ = some (.int .i64 0) := B6_8.c 2 (of_decide_eq_true rfl)
        have g9_B6_0 := B6_8.f 0 (of_decide_eq_true rfl)
        have g9_B6_1 := B6_8.f 1 (of_decide_eq_true rfl)
        have g9_B6_2 := B6_8.f 2 (of_decide_eq_true rfl)
        go_simp
        clear hHeld
        refine hK.out _ _ ⟨(((B3_8.new W1.heap.size 0 (Nat.ne_of_lt y58_B3) (.int .i64 t0)).new W1.heap.size 1 (Nat.ne_of_lt y58_B3) (.int .i64 t1)).new W1.heap.size 2 (Nat.ne_of_lt y58_B3) (.int .i64 t2)), (((B4_8.new W1.heap.size 0 (Nat.ne_of_lt y58_B4) (.int .i64 t0)).new W1.heap.size 1 (Nat.ne_of_lt y58_B4) (.int .i64 t1)).new W1.heap.size 2 (Nat.ne_of_lt y58_B4) (.int .i64 t2)), (((B5_8.new W1.heap.size 0 (Nat.ne_of_lt y58_B5) (.int .i64 t0)).new W1.heap.size 1 (Nat.ne_of_lt y58_B5) (.int .i64 t1)).new W1.heap.size 2 (Nat.ne_of_lt y58_B5) (.int .i64 t2))⟩ (fun hHeld => ?_)
        clear hK K c9_B6_0 c9_B6_1 c9_B6_2 g9_B6_0 g9_B6_1 g9_B6_2
        refine call_at (i := 11) (by kernel_rfl) rfl (fun K hK => ?_)
        have c10_B7_0 : w8.cell? ⟨W1.heap.size + 1, 0, none⟩ = some (.int .i64 0) := B7_8.c 0 (of_decide_eq_true rfl)
        have c10_B7_1 : w8.cell? ⟨W1.heap.size + 1, 1, none⟩ = some (.int .i64 0) := B7_8.c 1 (of_decide_eq_true rfl)
        have c10_B7_2 : w8.cell? ⟨W1.heap.size + 1, 2, none⟩ = some (.int .i64 0) := B7_8.c 2 (of_decide_eq_true rfl)
        have g10_B7_0 := B7_8.f 0 (of_decide_eq_true rfl)
        have g10_B7_1 := B7_8.f 1 (of_decide_eq_true rfl)
        have g10_B7_2 := B7_8.f 2 (of_decide_eq_true rfl)
        go_simp
        clear hHeld
        refine hK.out _ _ ⟨((((((B3_8.new W1.heap.size 0 (Nat.ne_of_lt y58_B3) (.int .i64 t0)).new W1.heap.size 1 (Nat.ne_of_lt y58_B3) (.int .i64 t1)).new W1.heap.size 2 (Nat.ne_of_lt y58_B3) (.int .i64 t2)).new (W1.heap.size + 1) 0 (Nat.ne_of_lt y61_B3) (.int .i64 y0)).new (W1.heap.size + 1) 1 (Nat.ne_of_lt y61_B3) (.int .i64 y1)).new (W1.heap.size + 1) 2 (Nat.ne_of_lt y61_B3) (.int .i64 y2)), ((((((B4_8.new W1.heap.size 0 (Nat.ne_of_lt y58_B4) (.int .i64 t0)).new W1.heap.size 1 (Nat.ne_of_lt y58_B4) (.int .i64 t1)).new W1.heap.size 2 (Nat.ne_of_lt y58_B4) (.int .i64 t2)).new (W1.heap.size + 1) 0 (Nat.ne_of_lt y61_B4) (.int .i64 y0)).new (W1.heap.size + 1) 1 (Nat.ne_of_lt y61_B4) (.int .i64 y1)).new (W1.heap.size + 1) 2 (Nat.ne_of_lt y61_B4) (.int .i64 y2)), ((((((B5_8.new W1.heap.size 0 (Nat.ne_of_lt y58_B5) (.int .i64 t0)).new W1.heap.size 1 (Nat.ne_of_lt y58_B5) (.int .i64 t1)).new W1.heap.size 2 (Nat.ne_of_lt y58_B5) (.int .i64 t2)).new (W1.heap.size + 1) 0 (Nat.ne_of_lt y61_B5) (.int .i64 y0)).new (W1.heap.size + 1) 1 (Nat.ne_of_lt y61_B5) (.int .i64 y1)).new (W1.heap.size + 1) 2 (Nat.ne_of_lt y61_B5) (.int .i64 y2))⟩ (fun hHeld => ?_)
        clear hK K c10_B7_0 c10_B7_1 c10_B7_2 g10_B7_0 g10_B7_1 g10_B7_2
        refine wpAnyH_done (by kernel_rfl) ?_ _
        clear hHeld
        exact cont2 _ _ _ _ _ _ _ _ _ _ _ _ _ _ _ _ _ _ _ _ _ _ _ _ _ _ _ _ _ _ _ _ _ _ _ _ _ _ _ _ W1.heap.size (W1.heap.size + 1) (bel_new (bel_new (bel_new (bel_new (bel_new (bel_new K8 _ _ y58_low _) _ _ y58_low _) _ _ y58_low _) _ _ y61_low _) _ _ y61_low _) _ _ y61_low _) ((((((B0_8.new W1.heap.size 0 (Nat.ne_of_lt y58_B0) (.int .i64 t0)).new W1.heap.size 1 (Nat.ne_of_lt y58_B0) (.int .i64 t1)).new W1.heap.size 2 (Nat.ne_of_lt y58_B0) (.int .i64 t2)).new (W1.heap.size + 1) 0 (Nat.ne_of_lt y61_B0) (.int .i64 y0)).new (W1.heap.size + 1) 1 (Nat.ne_of_lt y61_B0) (.int .i64 y1)).new (W1.heap.size + 1) 2 (Nat.ne_of_lt y61_B0) (.int .i64 y2)) ((((((B1_8.new W1.heap.size 0 (Nat.ne_of_lt y58_B1) (.int .i64 t0)).new W1.heap.size 1 (Nat.ne_of_lt y58_B1) (.int .i64 t1)).new W1.heap.size 2 (Nat.ne_of_lt y58_B1) (.int .i64 t2)).new (W1.heap.size + 1) 0 (Nat.ne_of_lt y61_B1) (.int .i64 y0)).new (W1.heap.size + 1) 1 (Nat.ne_of_lt y61_B1) (.int .i64 y1)).new (W1.heap.size + 1) 2 (Nat.ne_of_lt y61_B1) (.int .i64 y2)) ((((((f8.new W1.heap.size 0 (Nat.ne_of_lt y58_B2) (.int .i64 t0)).new W1.heap.size 1 (Nat.ne_of_lt y58_B2) (.int .i64 t1)).new W1.heap.size 2 (Nat.ne_of_lt y58_B2) (.int .i64 t2)).new (W1.heap.size + 1) 0 (Nat.ne_of_lt y61_B2) (.int .i64 y0)).new (W1.heap.size + 1) 1 (Nat.ne_of_lt y61_B2) (.int .i64 y1)).new (W1.heap.size + 1) 2 (Nat.ne_of_lt y61_B2) (.int .i64 y2)) ((((((B3_8.new W1.heap.size 0 (Nat.ne_of_lt y58_B3) (.int .i64 t0)).new W1.heap.size 1 (Nat.ne_of_lt y58_B3) (.int .i64 t1)).new W1.heap.size 2 (Nat.ne_of_lt y58_B3) (.int .i64 t2)).new (W1.heap.size + 1) 0 (Nat.ne_of_lt y61_B3) (.int .i64 y0)).new (W1.heap.size + 1) 1 (Nat.ne_of_lt y61_B3) (.int .i64 y1)).new (W1.heap.size + 1) 2 (Nat.ne_of_lt y61_B3) (.int .i64 y2)) ((((((B4_8.new W1.heap.size 0 (Nat.ne_of_lt y58_B4) (.int .i64 t0)).new W1.heap.size 1 (Nat.ne_of_lt y58_B4) (.int .i64 t1)).new W1.heap.size 2 (Nat.ne_of_lt y58_B4) (.int .i64 t2)).new (W1.heap.size + 1) 0 (Nat.ne_of_lt y61_B4) (.int .i64 y0)).new (W1.heap.size + 1) 1 (Nat.ne_of_lt y61_B4) (.int .i64 y1)).new (W1.heap.size + 1) 2 (Nat.ne_of_lt y61_B4) (.int .i64 y2)) ((((((B5_8.new W1.heap.size 0 (Nat.ne_of_lt y58_B5) (.int .i64 t0)).new W1.heap.size 1 (Nat.ne_of_lt y58_B5) (.int .i64 t1)).new W1.heap.size 2 (Nat.ne_of_lt y58_B5) (.int .i64 t2)).new (W1.heap.size + 1) 0 (Nat.ne_of_lt y61_B5) (.int .i64 y0)).new (W1.heap.size + 1) 1 (Nat.ne_of_lt y61_B5) (.int .i64 y1)).new (W1.heap.size + 1) 2 (Nat.ne_of_lt y61_B5) (.int .i64 y2)) ((((((B6_8.put 0 (of_decide_eq_true rfl) (.int .i64 t0) [.int .i64 t0, .int .i64 0, .int .i64 0] rfl).put 1 (of_decide_eq_true rfl) (.int .i64 t1) [.int .i64 t0, .int .i64 t1, .int .i64 0] rfl).put 2 (of_decide_eq_true rfl) (.int .i64 t2) [.int .i64 t0, .int .i64 t1, .int .i64 t2] rfl).new (W1.heap.size + 1) 0 (Nat.ne_of_lt y61_B6) (.int .i64 y0)).new (W1.heap.size + 1) 1 (Nat.ne_of_lt y61_B6) (.int .i64 y1)).new (W1.heap.size + 1) 2 (Nat.ne_of_lt y61_B6) (.int .i64 y2)) ((((((B7_8.new W1.heap.size 0 (Nat.ne_of_gt y61_B6) (.int .i64 t0)).new W1.heap.size 1 (Nat.ne_of_gt y61_B6) (.int .i64 t1)).new W1.heap.size 2 (Nat.ne_of_gt y61_B6) (.int .i64 t2)).put 0 (of_decide_eq_true rfl) (.int .i64 y0) [.int .i64 y0, .int .i64 0, .int .i64 0] rfl).put 1 (of_decide_eq_true rfl) (.int .i64 y1) [.int .i64 y0, .int .i64 y1, .int .i64 0] rfl).put 2 (of_decide_eq_true rfl) (.int .i64 y2) [.int .i64 y0, .int .i64 y1, .int .i64 y2] rfl) y58_low y61_low y58_B0 y58_B1 y58_B2 y58_B3 y58_B4 y58_B5 y61_B0 y61_B1 y61_B2 y61_B3 y61_B4 y61_B5 (Nat.ne_of_lt y61_B6)
    · have y62_B0 : w.heap.size < W1.heap.size := B0_c1.lies
      have y62_B1 : w.heap.size + 1 < W1.heap.size := B1_c1.lies
      have y62_B2 : w1.heap.size < W1.heap.size := B2_c1.lies
      have y62_B3 : w2.heap.size < W1.heap.size := B3_c1.lies
      have y62_B4 : x1_0 < W1.heap.size := B4_c1.lies
      have y62_B5 : x1_1 < W1.heap.size := B5_c1.lies
      have y62_low : w.heap.size ≤ W1.heap.size := KC1.size
      go_simp
      clear hHeld
      refine hK.out _ _ ⟨(B3_c1.alloc _).drew, (B4_c1.alloc _).drew, (B5_c1.alloc _).drew⟩ (fun hHeld => ?_)
      clear hK K
      refine call_at2 (i0 := 3) (i1 := 8) (by kernel_rfl) rfl rfl (fun K hK => ?_) (fun K hK => ?_)
      · go_simp
        refine (qTurn_any w1.heap.size false (o0, o1, o2, o3) (a0, a1, a2) _ (B2_c1.alloc _).drew).mono ?_
        rintro e w7 ⟨rfl, f7, k7⟩
        rw [ht] at f7 ⊢
        dsimp only at f7 ⊢
        have K7 : Below w.heap.size w w7 := k7.on (Below.drew (bel_al KC1 _)) (by omega)
        have B0_7 : Arr w.heap.size [.int .i64 q.1, .int .i64 q.2.1, .int .i64 q.2.2.1, .int .i64 q.2.2.2] w7 := (B0_c1.alloc _).drew.kept k7 (Nat.ne_of_lt y46_B0)
        have B1_7 : Arr (w.heap.size + 1) [.int .i64 p.1, .int .i64 p.2.1, .int .i64 p.2.2.1, .int .i64 p.2.2.2.1, .int .i64 p.2.2.2.2.1, .int .i64 p.2.2.2.2.2] w7 := (B1_c1.alloc _).drew.kept k7 (Nat.ne_of_lt y46_B1)
        have B3_7 : Arr w2.heap.size [.int .i64 o0, .int .i64 o1, .int .i64 o2, .int .i64 o3] w7 := (B3_c1.alloc _).drew.kept k7 (Nat.ne_of_gt y47_B2)
        have B4_7 : Arr x1_0 [.int .i64 a0, .int .i64 a1, .int .i64 a2] w7 := (B4_c1.alloc _).drew.kept k7 (Nat.ne_of_gt s1_4)
        have B5_7 : Arr x1_1 [.int .i64 b0, .int .i64 b1, .int .i64 b2] w7 := (B5_c1.alloc _).drew.kept k7 (Nat.ne_of_gt s1_8)
        have B6_7 : Arr W1.heap.size [.int .i64 0, .int .i64 0, .int .i64 0] w7 := (Arr_at _ _ [.int .i64 0, .int .i64 0, .int .i64 0] _ (by simp)).drew.kept k7 (Nat.ne_of_gt y62_B2)
        have z7 := B6_7.lies
        have z7_B4 := B4_7.lies
        have z7_B5 := B5_7.lies
        clear hHeld
        refine hK.out _ _ ⟨B3_7, B4_7, B5_7⟩ (fun hHeld => ?_)
        clear hK K B0_c1 B1_c1 B2_c1 B3_c1 B4_c1 B5_c1 k7
        refine call_at2 (i0 := 7) (i1 := 8) (by kernel_rfl) rfl rfl (fun K hK => ?_) (fun K hK => ?_)
        · go_simp
          refine (qTurn_any w1.heap.size false (o0, o1, o2, o3) (b0, b1, b2) _ f7).mono ?_
          rintro e w8 ⟨rfl, f8, k8⟩
          rw [hy] at f8 ⊢
          dsimp only at f8 ⊢
          have K8 : Below w.heap.size w w8 := k8.on K7 (by omega)
          have B0_8 : Arr w.heap.size [.int .i64 q.1, .int .i64 q.2.1, .int .i64 q.2.2.1, .int .i64 q.2.2.2] w8 := B0_7.kept k8 (Nat.ne_of_lt y46_B0)
          have B1_8 : Arr (w.heap.size + 1) [.int .i64 p.1, .int .i64 p.2.1, .int .i64 p.2.2.1, .int .i64 p.2.2.2.1, .int .i64 p.2.2.2.2.1, .int .i64 p.2.2.2.2.2] w8 := B1_7.kept k8 (Nat.ne_of_lt y46_B1)
          have B3_8 : Arr w2.heap.size [.int .i64 o0, .int .i64 o1, .int .i64 o2, .int .i64 o3] w8 := B3_7.kept k8 (Nat.ne_of_gt y47_B2)
          have B4_8 : Arr x1_0 [.int .i64 a0, .int .i64 a1, .int .i64 a2] w8 := B4_7.kept k8 (Nat.ne_of_gt s1_4)
          have B5_8 : Arr x1_1 [.int .i64 b0, .int .i64 b1, .int .i64 b2] w8 := B5_7.kept k8 (Nat.ne_of_gt s1_8)
          have B6_8 : Arr W1.heap.size [.int .i64 0, .int .i64 0, .int .i64 0] w8 := B6_7.kept k8 (Nat.ne_of_gt y62_B2)
          have z8 := B6_8.lies
          have z8_B4 := B4_8.lies
          have z8_B5 := B5_8.lies
          clear hHeld
          refine hK.out _ _ ⟨B3_8, B4_8, B5_8⟩ (fun hHeld => ?_)
          clear hK K K7 B0_7 B1_7 f7 B3_7 B4_7 B5_7 B6_7 k8
          refine call_at (i := 8) (by kernel_rfl) rfl (fun K hK => ?_)
          have y63_B0 : w.heap.size < w8.heap.size := B0_8.lies
          have y63_B1 : w.heap.size + 1 < w8.heap.size := B1_8.lies
          have y63_B2 : w1.heap.size < w8.heap.size := f8.lies
          have y63_B3 : w2.heap.size < w8.heap.size := B3_8.lies
          have y63_B4 : x1_0 < w8.heap.size := B4_8.lies
          have y63_B5 : x1_1 < w8.heap.size := B5_8.lies
          have y63_B6 : W1.heap.size < w8.heap.size := B6_8.lies
          have y63_low : w.heap.size ≤ w8.heap.size := K8.size
          go_simp
          clear hHeld
          refine hK.out _ _ ⟨(B3_8.alloc _), (B4_8.alloc _), (B5_8.alloc _)⟩ (fun hHeld => ?_)
          clear hK K
          refine call_at (i := 10) (by kernel_rfl) rfl (fun K hK => ?_)
          go_simp
          clear hHeld
          refine hK.out _ _ ⟨(B3_8.alloc _), (B4_8.alloc _), (B5_8.alloc _)⟩ (fun hHeld => ?_)
          clear hK K
          refine call_at (i := 11) (by kernel_rfl) rfl (fun K hK => ?_)
          have c10_B6_0 : w8.cell? ⟨W1.heap.size, 0, none⟩ = some (.int .i64 0) := B6_8.c 0 (of_decide_eq_true rfl)
          have c10_B6_1 : w8.cell? ⟨W1.heap.size, 1, none⟩ = some (.int .i64 0) := B6_8.c 1 (of_decide_eq_true rfl)
          have c10_B6_2 : w8.cell? ⟨W1.heap.size, 2, none⟩ = some (.int .i64 0) := B6_8.c 2 (of_decide_eq_true rfl)
          have g10_B6_0 := B6_8.f 0 (of_decide_eq_true rfl)
          have g10_B6_1 := B6_8.f 1 (of_decide_eq_true rfl)
          have g10_B6_2 := B6_8.f 2 (of_decide_eq_true rfl)
          have l10_B6 := B6_8.lies
          go_simp
          clear hHeld
          refine hK.out _ _ ⟨((((B3_8.new W1.heap.size 0 (Nat.ne_of_lt y62_B3) (.int .i64 y0)).new W1.heap.size 1 (Nat.ne_of_lt y62_B3) (.int .i64 y1)).new W1.heap.size 2 (Nat.ne_of_lt y62_B3) (.int .i64 y2)).alloc _), ((((B4_8.new W1.heap.size 0 (Nat.ne_of_lt y62_B4) (.int .i64 y0)).new W1.heap.size 1 (Nat.ne_of_lt y62_B4) (.int .i64 y1)).new W1.heap.size 2 (Nat.ne_of_lt y62_B4) (.int .i64 y2)).alloc _), ((((B5_8.new W1.heap.size 0 (Nat.ne_of_lt y62_B5) (.int .i64 y0)).new W1.heap.size 1 (Nat.ne_of_lt y62_B5) (.int .i64 y1)).new W1.heap.size 2 (Nat.ne_of_lt y62_B5) (.int .i64 y2)).alloc _)⟩ (fun hHeld => ?_)
          clear hK K c10_B6_0 c10_B6_1 c10_B6_2 g10_B6_0 g10_B6_1 g10_B6_2 l10_B6
          refine wpAnyH_done (by kernel_rfl) ?_ _
          clear hHeld
          exact cont2 _ _ _ _ _ _ _ _ _ _ _ _ _ _ _ _ _ _ _ _ _ _ _ _ _ _ _ _ _ _ _ _ _ _ _ _ _ _ _ _ w8.heap.size W1.heap.size (bel_al (bel_new (bel_new (bel_new K8 _ _ y62_low _) _ _ y62_low _) _ _ y62_low _) _) ((((B0_8.new W1.heap.size 0 (Nat.ne_of_lt y62_B0) (.int .i64 y0)).new W1.heap.size 1 (Nat.ne_of_lt y62_B0) (.int .i64 y1)).new W1.heap.size 2 (Nat.ne_of_lt y62_B0) (.int .i64 y2)).alloc _) ((((B1_8.new W1.heap.size 0 (Nat.ne_of_lt y62_B1) (.int .i64 y0)).new W1.heap.size 1 (Nat.ne_of_lt y62_B1) (.int .i64 y1)).new W1.heap.size 2 (Nat.ne_of_lt y62_B1) (.int .i64 y2)).alloc _) ((((f8.new W1.heap.size 0 (Nat.ne_of_lt y62_B2) (.int .i64 y0)).new W1.heap.size 1 (Nat.ne_of_lt y62_B2) (.int .i64 y1)).new W1.heap.size 2 (Nat.ne_of_lt y62_B2) (.int .i64 y2)).alloc _) ((((B3_8.new W1.heap.size 0 (Nat.ne_of_lt y62_B3) (.int .i64 y0)).new W1.heap.size 1 (Nat.ne_of_lt y62_B3) (.int .i64 y1)).new W1.heap.size 2 (Nat.ne_of_lt y62_B3) (.int .i64 y2)).alloc _) ((((B4_8.new W1.heap.size 0 (Nat.ne_of_lt y62_B4) (.int .i64 y0)).new W1.heap.size 1 (Nat.ne_of_lt y62_B4) (.int .i64 y1)).new W1.heap.size 2 (Nat.ne_of_lt y62_B4) (.int .i64 y2)).alloc _) ((((B5_8.new W1.heap.size 0 (Nat.ne_of_lt y62_B5) (.int .i64 y0)).new W1.heap.size 1 (Nat.ne_of_lt y62_B5) (.int .i64 y1)).new W1.heap.size 2 (Nat.ne_of_lt y62_B5) (.int .i64 y2)).alloc _) (Arr_at _ _ [.int .i64 t0, .int .i64 t1, .int .i64 t2] _ (by simp)) ((((B6_8.put 0 (of_decide_eq_true rfl) (.int .i64 y0) [.int .i64 y0, .int .i64 0, .int .i64 0] rfl).put 1 (of_decide_eq_true rfl) (.int .i64 y1) [.int .i64 y0, .int .i64 y1, .int .i64 0] rfl).put 2 (of_decide_eq_true rfl) (.int .i64 y2) [.int .i64 y0, .int .i64 y1, .int .i64 y2] rfl).alloc _) y63_low y62_low y63_B0 y63_B1 y63_B2 y63_B3 y63_B4 y63_B5 y62_B0 y62_B1 y62_B2 y62_B3 y62_B4 y62_B5 (Nat.ne_of_gt y63_B6)
        · have y64_B0 : w.heap.size < w7.heap.size := B0_7.lies
          have y64_B1 : w.heap.size + 1 < w7.heap.size := B1_7.lies
          have y64_B2 : w1.heap.size < w7.heap.size := f7.lies
          have y64_B3 : w2.heap.size < w7.heap.size := B3_7.lies
          have y64_B4 : x1_0 < w7.heap.size := B4_7.lies
          have y64_B5 : x1_1 < w7.heap.size := B5_7.lies
          have y64_B6 : W1.heap.size < w7.heap.size := B6_7.lies
          have y64_low : w.heap.size ≤ w7.heap.size := K7.size
          go_simp
          clear hHeld
          refine hK.out _ _ ⟨(B3_7.alloc _), (B4_7.alloc _), (B5_7.alloc _)⟩ (fun hHeld => ?_)
          clear hK K
          refine call_at (i := 7) (by kernel_rfl) rfl (fun K hK => ?_)
          go_simp
          refine (qTurn_any w1.heap.size false (o0, o1, o2, o3) (b0, b1, b2) _ (f7.alloc _)).mono ?_
          rintro e w8 ⟨rfl, f8, k8⟩
          rw [hy] at f8 ⊢
          dsimp only at f8 ⊢
          have K8 : Below w.heap.size w w8 := k8.on (bel_al K7 _) (by omega)
          have B0_8 : Arr w.heap.size [.int .i64 q.1, .int .i64 q.2.1, .int .i64 q.2.2.1, .int .i64 q.2.2.2] w8 := (B0_7.alloc _).kept k8 (Nat.ne_of_lt y46_B0)
          have B1_8 : Arr (w.heap.size + 1) [.int .i64 p.1, .int .i64 p.2.1, .int .i64 p.2.2.1, .int .i64 p.2.2.2.1, .int .i64 p.2.2.2.2.1, .int .i64 p.2.2.2.2.2] w8 := (B1_7.alloc _).kept k8 (Nat.ne_of_lt y46_B1)
          have B3_8 : Arr w2.heap.size [.int .i64 o0, .int .i64 o1, .int .i64 o2, .int .i64 o3] w8 := (B3_7.alloc _).kept k8 (Nat.ne_of_gt y47_B2)
          have B4_8 : Arr x1_0 [.int .i64 a0, .int .i64 a1, .int .i64 a2] w8 := (B4_7.alloc _).kept k8 (Nat.ne_of_gt s1_4)
          have B5_8 : Arr x1_1 [.int .i64 b0, .int .i64 b1, .int .i64 b2] w8 := (B5_7.alloc _).kept k8 (Nat.ne_of_gt s1_8)
          have B6_8 : Arr W1.heap.size [.int .i64 0, .int .i64 0, .int .i64 0] w8 := (B6_7.alloc _).kept k8 (Nat.ne_of_gt y62_B2)
          have B7_8 : Arr w7.heap.size [.int .i64 0, .int .i64 0, .int .i64 0] w8 := (Arr_at _ _ [.int .i64 0, .int .i64 0, .int .i64 0] _ (by simp)).kept k8 (Nat.ne_of_gt y64_B2)
          have z8 := B7_8.lies
          have z8_B4 := B4_8.lies
          have z8_B5 := B5_8.lies
          clear hHeld
          refine hK.out _ _ ⟨B3_8, B4_8, B5_8⟩ (fun hHeld => ?_)
          clear hK K K7 B0_7 B1_7 f7 B3_7 B4_7 B5_7 B6_7 k8
          refine call_at (i := 10) (by kernel_rfl) rfl (fun K hK => ?_)
          have c9_B7_0 : w8.cell? ⟨w7.heap.size, 0, none⟩ = some (.int .i64 0) := B7_8.c 0 (of_decide_eq_true rfl)
          have c9_B7_1 : w8.cell? ⟨w7.heap.size, 1, none⟩ = some (.int .i64 0) := B7_8.c 1 (of_decide_eq_true rfl)
          have c9_B7_2 : w8.cell? ⟨w7.heap.size, 2, none⟩ = some (.int .i64 0) := B7_8.c 2 (of_decide_eq_true rfl)
          have g9_B7_0 := B7_8.f 0 (of_decide_eq_true rfl)
          have g9_B7_1 := B7_8.f 1 (of_decide_eq_true rfl)
          have g9_B7_2 := B7_8.f 2 (of_decide_eq_true rfl)
          go_simp
          clear hHeld
          refine hK.out _ _ ⟨(((B3_8.new w7.heap.size 0 (Nat.ne_of_lt y64_B3) (.int .i64 t0)).new w7.heap.size 1 (Nat.ne_of_lt y64_B3) (.int .i64 t1)).new w7.heap.size 2 (Nat.ne_of_lt y64_B3) (.int .i64 t2)), (((B4_8.new w7.heap.size 0 (Nat.ne_of_lt y64_B4) (.int .i64 t0)).new w7.heap.size 1 (Nat.ne_of_lt y64_B4) (.int .i64 t1)).new w7.heap.size 2 (Nat.ne_of_lt y64_B4) (.int .i64 t2)), (((B5_8.new w7.heap.size 0 (Nat.ne_of_lt y64_B5) (.int .i64 t0)).new w7.heap.size 1 (Nat.ne_of_lt y64_B5) (.int .i64 t1)).new w7.heap.size 2 (Nat.ne_of_lt y64_B5) (.int .i64 t2))⟩ (fun hHeld => ?_)
          clear hK K c9_B7_0 c9_B7_1 c9_B7_2 g9_B7_0 g9_B7_1 g9_B7_2
          refine call_at (i := 11) (by kernel_rfl) rfl (fun K hK => ?_)
          have c10_B6_0 : w8.cell? ⟨W1.heap.size, 0, none⟩ = some (.int .i64 0) := B6_8.c 0 (of_decide_eq_true rfl)
          have c10_B6_1 : w8.cell? ⟨W1.heap.size, 1, none⟩ = some (.int .i64 0) := B6_8.c 1 (of_decide_eq_true rfl)
          have c10_B6_2 : w8.cell? ⟨W1.heap.size, 2, none⟩ = some (.int .i64 0) := B6_8.c 2 (of_decide_eq_true rfl)
          have g10_B6_0 := B6_8.f 0 (of_decide_eq_true rfl)
          have g10_B6_1 := B6_8.f 1 (of_decide_eq_true rfl)
          have g10_B6_2 := B6_8.f 2 (of_decide_eq_true rfl)
          go_simp
          clear hHeld
          refine hK.out _ _ ⟨((((((B3_8.new w7.heap.size 0 (Nat.ne_of_lt y64_B3) (.int .i64 t0)).new w7.heap.size 1 (Nat.ne_of_lt y64_B3) (.int .i64 t1)).new w7.heap.size 2 (Nat.ne_of_lt y64_B3) (.int .i64 t2)).new W1.heap.size 0 (Nat.ne_of_lt y62_B3) (.int .i64 y0)).new W1.heap.size 1 (Nat.ne_of_lt y62_B3) (.int .i64 y1)).new W1.heap.size 2 (Nat.ne_of_lt y62_B3) (.int .i64 y2)), ((((((B4_8.new w7.heap.size 0 (Nat.ne_of_lt y64_B4) (.int .i64 t0)).new w7.heap.size 1 (Nat.ne_of_lt y64_B4) (.int .i64 t1)).new w7.heap.size 2 (Nat.ne_of_lt y64_B4) (.int .i64 t2)).new W1.heap.size 0 (Nat.ne_of_lt y62_B4) (.int .i64 y0)).new W1.heap.size 1 (Nat.ne_of_lt y62_B4) (.int .i64 y1)).new W1.heap.size 2 (Nat.ne_of_lt y62_B4) (.int .i64 y2)), ((((((B5_8.new w7.heap.size 0 (Nat.ne_of_lt y64_B5) (.int .i64 t0)).new w7.heap.size 1 (Nat.ne_of_lt y64_B5) (.int .i64 t1)).new w7.heap.size 2 (Nat.ne_of_lt y64_B5) (.int .i64 t2)).new W1.heap.size 0 (Nat.ne_of_lt y62_B5) (.int .i64 y0)).new W1.heap.size 1 (Nat.ne_of_lt y62_B5) (.int .i64 y1)).new W1.heap.size 2 (Nat.ne_of_lt y62_B5) (.int .i64 y2))⟩ (fun hHeld => ?_)
          clear hK K c10_B6_0 c10_B6_1 c10_B6_2 g10_B6_0 g10_B6_1 g10_B6_2
          refine wpAnyH_done (by kernel_rfl) ?_ _
          clear hHeld
          exact cont2 _ _ _ _ _ _ _ _ _ _ _ _ _ _ _ _ _ _ _ _ _ _ _ _ _ _ _ _ _ _ _ _ _ _ _ _ _ _ _ _ w7.heap.size W1.heap.size (bel_new (bel_new (bel_new (bel_new (bel_new (bel_new K8 _ _ y64_low _) _ _ y64_low _) _ _ y64_low _) _ _ y62_low _) _ _ y62_low _) _ _ y62_low _) ((((((B0_8.new w7.heap.size 0 (Nat.ne_of_lt y64_B0) (.int .i64 t0)).new w7.heap.size 1 (Nat.ne_of_lt y64_B0) (.int .i64 t1)).new w7.heap.size 2 (Nat.ne_of_lt y64_B0) (.int .i64 t2)).new W1.heap.size 0 (Nat.ne_of_lt y62_B0) (.int .i64 y0)).new W1.heap.size 1 (Nat.ne_of_lt y62_B0) (.int .i64 y1)).new W1.heap.size 2 (Nat.ne_of_lt y62_B0) (.int .i64 y2)) ((((((B1_8.new w7.heap.size 0 (Nat.ne_of_lt y64_B1) (.int .i64 t0)).new w7.heap.size 1 (Nat.ne_of_lt y64_B1) (.int .i64 t1)).new w7.heap.size 2 (Nat.ne_of_lt y64_B1) (.int .i64 t2)).new W1.heap.size 0 (Nat.ne_of_lt y62_B1) (.int .i64 y0)).new W1.heap.size 1 (Nat.ne_of_lt y62_B1) (.int .i64 y1)).new W1.heap.size 2 (Nat.ne_of_lt y62_B1) (.int .i64 y2)) ((((((f8.new w7.heap.size 0 (Nat.ne_of_lt y64_B2) (.int .i64 t0)).new w7.heap.size 1 (Nat.ne_of_lt y64_B2) (.int .i64 t1)).new w7.heap.size 2 (Nat.ne_of_lt y64_B2) (.int .i64 t2)).new W1.heap.size 0 (Nat.ne_of_lt y62_B2) (.int .i64 y0)).new W1.heap.size 1 (Nat.ne_of_lt y62_B2) (.int .i64 y1)).new W1.heap.size 2 (Nat.ne_of_lt y62_B2) (.int .i64 y2)) ((((((B3_8.new w7.heap.size 0 (Nat.ne_of_lt y64_B3) (.int .i64 t0)).new w7.heap.size 1 (Nat.ne_of_lt y64_B3) (.int .i64 t1)).new w7.heap.size 2 (Nat.ne_of_lt y64_B3) (.int .i64 t2)).new W1.heap.size 0 (Nat.ne_of_lt y62_B3) (.int .i64 y0)).new W1.heap.size 1 (Nat.ne_of_lt y62_B3) (.int .i64 y1)).new W1.heap.size 2 (Nat.ne_of_lt y62_B3) (.int .i64 y2)) ((((((B4_8.new w7.heap.size 0 (Nat.ne_of_lt y64_B4) (.int .i64 t0)).new w7.heap.size 1 (Nat.ne_of_lt y64_B4) (.int .i64 t1)).new w7.heap.size 2 (Nat.ne_of_lt y64_B4) (.int .i64 t2)).new W1.heap.size 0 (Nat.ne_of_lt y62_B4) (.int .i64 y0)).new W1.heap.size 1 (Nat.ne_of_lt y62_B4) (.int .i64 y1)).new W1.heap.size 2 (Nat.ne_of_lt y62_B4) (.int .i64 y2)) ((((((B5_8.new w7.heap.size 0 (Nat.ne_of_lt y64_B5) (.int .i64 t0)).new w7.heap.size 1 (Nat.ne_of_lt y64_B5) (.int .i64 t1)).new w7.heap.size 2 (Nat.ne_of_lt y64_B5) (.int .i64 t2)).new W1.heap.size 0 (Nat.ne_of_lt y62_B5) (.int .i64 y0)).new W1.heap.size 1 (Nat.ne_of_lt y62_B5) (.int .i64 y1)).new W1.heap.size 2 (Nat.ne_of_lt y62_B5) (.int .i64 y2)) ((((((B7_8.put 0 (of_decide_eq_true rfl) (.int .i64 t0) [.int .i64 t0, .int .i64 0, .int .i64 0] rfl).put 1 (of_decide_eq_true rfl) (.int .i64 t1) [.int .i64 t0, .int .i64 t1, .int .i64 0] rfl).put 2 (of_decide_eq_true rfl) (.int .i64 t2) [.int .i64 t0, .int .i64 t1, .int .i64 t2] rfl).new W1.heap.size 0 (Nat.ne_of_gt y64_B6) (.int .i64 y0)).new W1.heap.size 1 (Nat.ne_of_gt y64_B6) (.int .i64 y1)).new W1.heap.size 2 (Nat.ne_of_gt y64_B6) (.int .i64 y2)) ((((((B6_8.new w7.heap.size 0 (Nat.ne_of_lt y64_B6) (.int .i64 t0)).new w7.heap.size 1 (Nat.ne_of_lt y64_B6) (.int .i64 t1)).new w7.heap.size 2 (Nat.ne_of_lt y64_B6) (.int .i64 t2)).put 0 (of_decide_eq_true rfl) (.int .i64 y0) [.int .i64 y0, .int .i64 0, .int .i64 0] rfl).put 1 (of_decide_eq_true rfl) (.int .i64 y1) [.int .i64 y0, .int .i64 y1, .int .i64 0] rfl).put 2 (of_decide_eq_true rfl) (.int .i64 y2) [.int .i64 y0, .int .i64 y1, .int .i64 y2] rfl) y64_low y62_low y64_B0 y64_B1 y64_B2 y64_B3 y64_B4 y64_B5 y62_B0 y62_B1 y62_B2 y62_B3 y62_B4 y62_B5 (Nat.ne_of_gt y64_B6)
      · have y65_B0 : w.heap.size < W1.heap.size + 1 := (Nat.lt_succ_of_lt B0_c1.lies)
        have y65_B1 : w.heap.size + 1 < W1.heap.size + 1 := (Nat.lt_succ_of_lt B1_c1.lies)
        have y65_B2 : w1.heap.size < W1.heap.size + 1 := (Nat.lt_succ_of_lt B2_c1.lies)
        have y65_B3 : w2.heap.size < W1.heap.size + 1 := (Nat.lt_succ_of_lt B3_c1.lies)
        have y65_B4 : x1_0 < W1.heap.size + 1 := (Nat.lt_succ_of_lt B4_c1.lies)
        have y65_B5 : x1_1 < W1.heap.size + 1 := (Nat.lt_succ_of_lt B5_c1.lies)
        have y65_B6 : W1.heap.size < W1.heap.size + 1 := (Nat.lt_succ_self _)
        have y65_low : w.heap.size ≤ W1.heap.size + 1 := (Nat.le_succ_of_le KC1.size)
        go_simp
        clear hHeld
        refine hK.out _ _ ⟨((B3_c1.alloc _).alloc _).drew, ((B4_c1.alloc _).alloc _).drew, ((B5_c1.alloc _).alloc _).drew⟩ (fun hHeld => ?_)
        clear hK K
        refine call_at (i := 3) (by kernel_rfl) rfl (fun K hK => ?_)
        go_simp
        refine (qTurn_any w1.heap.size false (o0, o1, o2, o3) (a0, a1, a2) _ ((B2_c1.alloc _).alloc _).drew).mono ?_
        rintro e w7 ⟨rfl, f7, k7⟩
        rw [ht] at f7 ⊢
        dsimp only at f7 ⊢
        have K7 : Below w.heap.size w w7 := k7.on (Below.drew (bel_al (bel_al KC1 _) _)) (by omega)
        have B0_7 : Arr w.heap.size [.int .i64 q.1, .int .i64 q.2.1, .int .i64 q.2.2.1, .int .i64 q.2.2.2] w7 := ((B0_c1.alloc _).alloc _).drew.kept k7 (Nat.ne_of_lt y46_B0)
        have B1_7 : Arr (w.heap.size + 1) [.int .i64 p.1, .int .i64 p.2.1, .int .i64 p.2.2.1, .int .i64 p.2.2.2.1, .int .i64 p.2.2.2.2.1, .int .i64 p.2.2.2.2.2] w7 := ((B1_c1.alloc _).alloc _).drew.kept k7 (Nat.ne_of_lt y46_B1)
        have B3_7 : Arr w2.heap.size [.int .i64 o0, .int .i64 o1, .int .i64 o2, .int .i64 o3] w7 := ((B3_c1.alloc _).alloc _).drew.kept k7 (Nat.ne_of_gt y47_B2)
        have B4_7 : Arr x1_0 [.int .i64 a0, .int .i64 a1, .int .i64 a2] w7 := ((B4_c1.alloc _).alloc _).drew.kept k7 (Nat.ne_of_gt s1_4)
        have B5_7 : Arr x1_1 [.int .i64 b0, .int .i64 b1, .int .i64 b2] w7 := ((B5_c1.alloc _).alloc _).drew.kept k7 (Nat.ne_of_gt s1_8)
        have B6_7 : Arr W1.heap.size [.int .i64 0, .int .i64 0, .int .i64 0] w7 := ((Arr_at _ _ [.int .i64 0, .int .i64 0, .int .i64 0] _ (by simp)).alloc _).drew.kept k7 (Nat.ne_of_gt y62_B2)
        have B7_7 : Arr (W1.heap.size + 1) [.int .i64 0, .int .i64 0, .int .i64 0] w7 := (Arr_at _ _ [.int .i64 0, .int .i64 0, .int .i64 0] _ (by simp)).drew.kept k7 (Nat.ne_of_gt y65_B2)
        have z7 := B7_7.lies
        have z7_B4 := B4_7.lies
        have z7_B5 := B5_7.lies
        clear hHeld
        refine hK.out _ _ ⟨B3_7, B4_7, B5_7⟩ (fun hHeld => ?_)
        clear hK K B0_c1 B1_c1 B2_c1 B3_c1 B4_c1 B5_c1 k7
        refine call_at (i := 7) (by kernel_rfl) rfl (fun K hK => ?_)
        go_simp
        refine (qTurn_any w1.heap.size false (o0, o1, o2, o3) (b0, b1, b2) _ f7).mono ?_
        rintro e w8 ⟨rfl, f8, k8⟩
        rw [hy] at f8 ⊢
        dsimp only at f8 ⊢
        have K8 : Below w.heap.size w w8 := k8.on K7 (by omega)
        have B0_8 : Arr w.heap.size [.int .i64 q.1, .int .i64 q.2.1, .int .i64 q.2.2.1, .int .i64 q.2.2.2] w8 := B0_7.kept k8 (Nat.ne_of_lt y46_B0)
        have B1_8 : Arr (w.heap.size + 1) [.int .i64 p.1, .int .i64 p.2.1, .int .i64 p.2.2.1, .int .i64 p.2.2.2.1, .int .i64 p.2.2.2.2.1, .int .i64 p.2.2.2.2.2] w8 := B1_7.kept k8 (Nat.ne_of_lt y46_B1)
        have B3_8 : Arr w2.heap.size [.int .i64 o0, .int .i64 o1, .int .i64 o2, .int .i64 o3] w8 := B3_7.kept k8 (Nat.ne_of_gt y47_B2)
        have B4_8 : Arr x1_0 [.int .i64 a0, .int .i64 a1, .int .i64 a2] w8 := B4_7.kept k8 (Nat.ne_of_gt s1_4)
        have B5_8 : Arr x1_1 [.int .i64 b0, .int .i64 b1, .int .i64 b2] w8 := B5_7.kept k8 (Nat.ne_of_gt s1_8)
        have B6_8 : Arr W1.heap.size [.int .i64 0, .int .i64 0, .int .i64 0] w8 := B6_7.kept k8 (Nat.ne_of_gt y62_B2)
        have B7_8 : Arr (W1.heap.size + 1) [.int .i64 0, .int .i64 0, .int .i64 0] w8 := B7_7.kept k8 (Nat.ne_of_gt y65_B2)
        have z8 := B7_8.lies
        have z8_B4 := B4_8.lies
        have z8_B5 := B5_8.lies
        clear hHeld
        refine hK.out _ _ ⟨B3_8, B4_8, B5_8⟩ (fun hHeld => ?_)
        clear hK K K7 B0_7 B1_7 f7 B3_7 B4_7 B5_7 B6_7 B7_7 k8
        refine call_at (i := 10) (by kernel_rfl) rfl (fun K hK => ?_)
        have c9_B7_0 : w8.cell? ⟨W1.heap.size + 1, 0, none⟩ = some (.int .i64 0) := B7_8.c 0 (of_decide_eq_true rfl)
        have c9_B7_1 : w8.cell? ⟨W1.heap.size + 1, 1, none⟩ = some (.int .i64 0) := B7_8.c 1 (of_decide_eq_true rfl)
        have c9_B7_2 : w8.cell? ⟨W1.heap.size + 1, 2, none⟩ = some (.int .i64 0) := B7_8.c 2 (of_decide_eq_true rfl)
        have g9_B7_0 := B7_8.f 0 (of_decide_eq_true rfl)
        have g9_B7_1 := B7_8.f 1 (of_decide_eq_true rfl)
        have g9_B7_2 := B7_8.f 2 (of_decide_eq_true rfl)
        go_simp
        clear hHeld
        refine hK.out _ _ ⟨(((B3_8.new (W1.heap.size + 1) 0 (Nat.ne_of_lt y65_B3) (.int .i64 t0)).new (W1.heap.size + 1) 1 (Nat.ne_of_lt y65_B3) (.int .i64 t1)).new (W1.heap.size + 1) 2 (Nat.ne_of_lt y65_B3) (.int .i64 t2)), (((B4_8.new (W1.heap.size + 1) 0 (Nat.ne_of_lt y65_B4) (.int .i64 t0)).new (W1.heap.size + 1) 1 (Nat.ne_of_lt y65_B4) (.int .i64 t1)).new (W1.heap.size + 1) 2 (Nat.ne_of_lt y65_B4) (.int .i64 t2)), (((B5_8.new (W1.heap.size + 1) 0 (Nat.ne_of_lt y65_B5) (.int .i64 t0)).new (W1.heap.size + 1) 1 (Nat.ne_of_lt y65_B5) (.int .i64 t1)).new (W1.heap.size + 1) 2 (Nat.ne_of_lt y65_B5) (.int .i64 t2))⟩ (fun hHeld => ?_)
        clear hK K c9_B7_0 c9_B7_1 c9_B7_2 g9_B7_0 g9_B7_1 g9_B7_2
        refine call_at (i := 11) (by kernel_rfl) rfl (fun K hK => ?_)
        have c10_B6_0 : w8.cell? ⟨W1.heap.size, 0, none⟩ = some (.int .i64 0) := B6_8.c 0 (of_decide_eq_true rfl)
        have c10_B6_1 : w8.cell? ⟨W1.heap.size, 1, none⟩ = some (.int .i64 0) := B6_8.c 1 (of_decide_eq_true rfl)
        have c10_B6_2 : w8.cell? ⟨W1.heap.size, 2, none⟩ = some (.int .i64 0) := B6_8.c 2 (of_decide_eq_true rfl)
        have g10_B6_0 := B6_8.f 0 (of_decide_eq_true rfl)
        have g10_B6_1 := B6_8.f 1 (of_decide_eq_true rfl)
        have g10_B6_2 := B6_8.f 2 (of_decide_eq_true rfl)
        go_simp
        clear hHeld
        refine hK.out _ _ ⟨((((((B3_8.new (W1.heap.size + 1) 0 (Nat.ne_of_lt y65_B3) (.int .i64 t0)).new (W1.heap.size + 1) 1 (Nat.ne_of_lt y65_B3) (.int .i64 t1)).new (W1.heap.size + 1) 2 (Nat.ne_of_lt y65_B3) (.int .i64 t2)).new W1.heap.size 0 (Nat.ne_of_lt y62_B3) (.int .i64 y0)).new W1.heap.size 1 (Nat.ne_of_lt y62_B3) (.int .i64 y1)).new W1.heap.size 2 (Nat.ne_of_lt y62_B3) (.int .i64 y2)), ((((((B4_8.new (W1.heap.size + 1) 0 (Nat.ne_of_lt y65_B4) (.int .i64 t0)).new (W1.heap.size + 1) 1 (Nat.ne_of_lt y65_B4) (.int .i64 t1)).new (W1.heap.size + 1) 2 (Nat.ne_of_lt y65_B4) (.int .i64 t2)).new W1.heap.size 0 (Nat.ne_of_lt y62_B4) (.int .i64 y0)).new W1.heap.size 1 (Nat.ne_of_lt y62_B4) (.int .i64 y1)).new W1.heap.size 2 (Nat.ne_of_lt y62_B4) (.int .i64 y2)), ((((((B5_8.new (W1.heap.size + 1) 0 (Nat.ne_of_lt y65_B5) (.int .i64 t0)).new (W1.heap.size + 1) 1 (Nat.ne_of_lt y65_B5) (.int .i64 t1)).new (W1.heap.size + 1) 2 (Nat.ne_of_lt y65_B5) (.int .i64 t2)).new W1.heap.size 0 (Nat.ne_of_lt y62_B5) (.int .i64 y0)).new W1.heap.size 1 (Nat.ne_of_lt y62_B5) (.int .i64 y1)).new W1.heap.size 2 (Nat.ne_of_lt y62_B5) (.int .i64 y2))⟩ (fun hHeld => ?_)
        clear hK K c10_B6_0 c10_B6_1 c10_B6_2 g10_B6_0 g10_B6_1 g10_B6_2
        refine wpAnyH_done (by kernel_rfl) ?_ _
        clear hHeld
        exact cont2 _ _ _ _ _ _ _ _ _ _ _ _ _ _ _ _ _ _ _ _ _ _ _ _ _ _ _ _ _ _ _ _ _ _ _ _ _ _ _ _ (W1.heap.size + 1) W1.heap.size (bel_new (bel_new (bel_new (bel_new (bel_new (bel_new K8 _ _ y65_low _) _ _ y65_low _) _ _ y65_low _) _ _ y62_low _) _ _ y62_low _) _ _ y62_low _) ((((((B0_8.new (W1.heap.size + 1) 0 (Nat.ne_of_lt y65_B0) (.int .i64 t0)).new (W1.heap.size + 1) 1 (Nat.ne_of_lt y65_B0) (.int .i64 t1)).new (W1.heap.size + 1) 2 (Nat.ne_of_lt y65_B0) (.int .i64 t2)).new W1.heap.size 0 (Nat.ne_of_lt y62_B0) (.int .i64 y0)).new W1.heap.size 1 (Nat.ne_of_lt y62_B0) (.int .i64 y1)).new W1.heap.size 2 (Nat.ne_of_lt y62_B0) (.int .i64 y2)) ((((((B1_8.new (W1.heap.size + 1) 0 (Nat.ne_of_lt y65_B1) (.int .i64 t0)).new (W1.heap.size + 1) 1 (Nat.ne_of_lt y65_B1) (.int .i64 t1)).new (W1.heap.size + 1) 2 (Nat.ne_of_lt y65_B1) (.int .i64 t2)).new W1.heap.size 0 (Nat.ne_of_lt y62_B1) (.int .i64 y0)).new W1.heap.size 1 (Nat.ne_of_lt y62_B1) (.int .i64 y1)).new W1.heap.size 2 (Nat.ne_of_lt y62_B1) (.int .i64 y2)) ((((((f8.new (W1.heap.size + 1) 0 (Nat.ne_of_lt y65_B2) (.int .i64 t0)).new (W1.heap.size + 1) 1 (Nat.ne_of_lt y65_B2) (.int .i64 t1)).new (W1.heap.size + 1) 2 (Nat.ne_of_lt y65_B2) (.int .i64 t2)).new W1.heap.size 0 (Nat.ne_of_lt y62_B2) (.int .i64 y0)).new W1.heap.size 1 (Nat.ne_of_lt y62_B2) (.int .i64 y1)).new W1.heap.size 2 (Nat.ne_of_lt y62_B2) (.int .i64 y2)) ((((((B3_8.new (W1.heap.size + 1) 0 (Nat.ne_of_lt y65_B3) (.int .i64 t0)).new (W1.heap.size + 1) 1 (Nat.ne_of_lt y65_B3) (.int .i64 t1)).new (W1.heap.size + 1) 2 (Nat.ne_of_lt y65_B3) (.int .i64 t2)).new W1.heap.size 0 (Nat.ne_of_lt y62_B3) (.int .i64 y0)).new W1.heap.size 1 (Nat.ne_of_lt y62_B3) (.int .i64 y1)).new W1.heap.size 2 (Nat.ne_of_lt y62_B3) (.int .i64 y2)) ((((((B4_8.new (W1.heap.size + 1) 0 (Nat.ne_of_lt y65_B4) (.int .i64 t0)).new (W1.heap.size + 1) 1 (Nat.ne_of_lt y65_B4) (.int .i64 t1)).new (W1.heap.size + 1) 2 (Nat.ne_of_lt y65_B4) (.int .i64 t2)).new W1.heap.size 0 (Nat.ne_of_lt y62_B4) (.int .i64 y0)).new W1.heap.size 1 (Nat.ne_of_lt y62_B4) (.int .i64 y1)).new W1.heap.size 2 (Nat.ne_of_lt y62_B4) (.int .i64 y2)) ((((((B5_8.new (W1.heap.size + 1) 0 (Nat.ne_of_lt y65_B5) (.int .i64 t0)).new (W1.heap.size + 1) 1 (Nat.ne_of_lt y65_B5) (.int .i64 t1)).new (W1.heap.size + 1) 2 (Nat.ne_of_lt y65_B5) (.int .i64 t2)).new W1.heap.size 0 (Nat.ne_of_lt y62_B5) (.int .i64 y0)).new W1.heap.size 1 (Nat.ne_of_lt y62_B5) (.int .i64 y1)).new W1.heap.size 2 (Nat.ne_of_lt y62_B5) (.int .i64 y2)) ((((((B7_8.put 0 (of_decide_eq_true rfl) (.int .i64 t0) [.int .i64 t0, .int .i64 0, .int .i64 0] rfl).put 1 (of_decide_eq_true rfl) (.int .i64 t1) [.int .i64 t0, .int .i64 t1, .int .i64 0] rfl).put 2 (of_decide_eq_true rfl) (.int .i64 t2) [.int .i64 t0, .int .i64 t1, .int .i64 t2] rfl).new W1.heap.size 0 (Nat.ne_of_gt y65_B6) (.int .i64 y0)).new W1.heap.size 1 (Nat.ne_of_gt y65_B6) (.int .i64 y1)).new W1.heap.size 2 (Nat.ne_of_gt y65_B6) (.int .i64 y2)) ((((((B6_8.new (W1.heap.size + 1) 0 (Nat.ne_of_lt y65_B6) (.int .i64 t0)).new (W1.heap.size + 1) 1 (Nat.ne_of_lt y65_B6) (.int .i64 t1)).new (W1.heap.size + 1) 2 (Nat.ne_of_lt y65_B6) (.int .i64 t2)).put 0 (of_decide_eq_true rfl) (.int .i64 y0) [.int .i64 y0, .int .i64 0, .int .i64 0] rfl).put 1 (of_decide_eq_true rfl) (.int .i64 y1) [.int .i64 y0, .int .i64 y1, .int .i64 0] rfl).put 2 (of_decide_eq_true rfl) (.int .i64 y2) [.int .i64 y0, .int .i64 y1, .int .i64 y2] rfl) y65_low y62_low y65_B0 y65_B1 y65_B2 y65_B3 y65_B4 y65_B5 y62_B0 y62_B1 y62_B2 y62_B3 y62_B4 y62_B5 (Nat.ne_of_gt y65_B6)
  refine wp_region_held_drew (S := fun w' => Arr (w.heap.size + 1) [.int .i64 p.1, .int .i64 p.2.1, .int .i64 p.2.2.1, .int .i64 p.2.2.2.1, .int .i64 p.2.2.2.2.1, .int .i64 p.2.2.2.2.2] w') (by kernel_rfl) B1_4.drew (fun hHeld => ?_)
  refine take_at (i := 0) (v := ?v7) rfl (by kernel_rfl) (by kernel_rfl) (by kernel_rfl) (fun _ _ _ h => h) (Or.inl ⟨by rfl, ?y7⟩) hHeld ?t7
  case y7 => (intro wx hSw; go_simp <;> with_reducible rfl)
  simp only [Act.put, List.setIfInBounds_toArray, List.set_cons_zero, List.set_cons_succ]
  refine take_at (i := 1) (v := ?v8) rfl (by kernel_rfl) (by kernel_rfl) (by kernel_rfl) (fun _ _ _ h => h) (Or.inl ⟨by rfl, ?y8⟩) hHeld ?t8
  case y8 => (intro wx hSw; go_simp <;> with_reducible rfl)
  simp only [Act.put, List.setIfInBounds_toArray, List.set_cons_zero, List.set_cons_succ]
  refine take_at (i := 2) (v := ?v9) rfl (by kernel_rfl) (by kernel_rfl) (by kernel_rfl) (fun _ _ _ h => h) (Or.inl ⟨by rfl, ?y9⟩) hHeld ?t9
  case y9 => (intro wx hSw; have hc0 : wx.cell? ⟨w.heap.size + 1, 0, none⟩ = some (.int .i64 p.1) := hSw.c 0 (of_decide_eq_true rfl); have hc1 : wx.cell? ⟨w.heap.size + 1, 1, none⟩ = some (.int .i64 p.2.1) := hSw.c 1 (of_decide_eq_true rfl); have hc2 : wx.cell? ⟨w.heap.size + 1, 2, none⟩ = some (.int .i64 p.2.2.1) := hSw.c 2 (of_decide_eq_true rfl); go_simp <;> with_reducible rfl)
  simp only [Act.put, List.setIfInBounds_toArray, List.set_cons_zero, List.set_cons_succ]
  refine take_at (i := 4) (v := ?v10) rfl (by kernel_rfl) (by kernel_rfl) (by kernel_rfl) (fun _ _ _ h => h) (Or.inl ⟨by rfl, ?y10⟩) hHeld ?t10
  case y10 => (intro wx hSw; go_simp <;> with_reducible rfl)
  simp only [Act.put, List.setIfInBounds_toArray, List.set_cons_zero, List.set_cons_succ]
  refine take_at (i := 5) (v := ?v11) rfl (by kernel_rfl) (by kernel_rfl) (by kernel_rfl) (fun _ _ _ h => h) (Or.inl ⟨by rfl, ?y11⟩) hHeld ?t11
  case y11 => (intro wx hSw; go_simp <;> with_reducible rfl)
  simp only [Act.put, List.setIfInBounds_toArray, List.set_cons_zero, List.set_cons_succ]
  refine take_at (i := 6) (v := ?v12) rfl (by kernel_rfl) (by kernel_rfl) (by kernel_rfl) (fun _ _ _ h => h) (Or.inl ⟨by rfl, ?y12⟩) hHeld ?t12
  case y12 => (intro wx hSw; have hc3 : wx.cell? ⟨w.heap.size + 1, 3, none⟩ = some (.int .i64 p.2.2.2.1) := hSw.c 3 (of_decide_eq_true rfl); have hc4 : wx.cell? ⟨w.heap.size + 1, 4, none⟩ = some (.int .i64 p.2.2.2.2.1) := hSw.c 4 (of_decide_eq_true rfl); have hc5 : wx.cell? ⟨w.heap.size + 1, 5, none⟩ = some (.int .i64 p.2.2.2.2.2) := hSw.c 5 (of_decide_eq_true rfl); go_simp <;> with_reducible rfl)
  simp only [Act.put, List.setIfInBounds_toArray, List.set_cons_zero, List.set_cons_succ]
  refine call_at3 (i0 := 3) (i1 := 8) (i2 := 9) (by kernel_rfl) rfl rfl rfl (fun K hK => ?_) (fun K hK => ?_) (fun K hK => ?_)
  · go_simp
    refine (vUnit_any w1.heap.size false (p.1, p.2.1, p.2.2.1) _ B2_4.drew).mono ?_
    rintro e w5 ⟨rfl, f5, k5⟩
    rw [ha] at f5 ⊢
    dsimp only at f5 ⊢
    have K5 : Below w.heap.size w w5 := k5.on (Below.drew K4) (by omega)
    have B0_5 : Arr w.heap.size [.int .i64 q.1, .int .i64 q.2.1, .int .i64 q.2.2.1, .int .i64 q.2.2.2] w5 := B0_4.drew.kept k5 (Nat.ne_of_lt y46_B0)
    have B1_5 : Arr (w.heap.size + 1) [.int .i64 p.1, .int .i64 p.2.1, .int .i64 p.2.2.1, .int .i64 p.2.2.2.1, .int .i64 p.2.2.2.2.1, .int .i64 p.2.2.2.2.2] w5 := B1_4.drew.kept k5 (Nat.ne_of_lt y46_B1)
    have B3_5 : Arr w2.heap.size [.int .i64 o0, .int .i64 o1, .int .i64 o2, .int .i64 o3] w5 := B3_4.drew.kept k5 (Nat.ne_of_gt y47_B2)
    have z5 := B3_5.lies
    clear hHeld
    refine hK.out _ _ B1_5 (fun hHeld => ?_)
    clear hK K K4 B0_4 B1_4 B2_4 B3_4 k5
    refine call_at3 (i0 := 7) (i1 := 8) (i2 := 9) (by kernel_rfl) rfl rfl rfl (fun K hK => ?_) (fun K hK => ?_) (fun K hK => ?_)
    · go_simp
      refine (vUnit_any w1.heap.size false p.2.2.2 _ f5).mono ?_
      rintro e w6 ⟨rfl, f6, k6⟩
      rw [hb] at f6 ⊢
      dsimp only at f6 ⊢
      have K6 : Below w.heap.size w w6 := k6.on K5 (by omega)
      have B0_6 : Arr w.heap.size [.int .i64 q.1, .int .i64 q.2.1, .int .i64 q.2.2.1, .int .i64 q.2.2.2] w6 := B0_5.kept k6 (Nat.ne_of_lt y46_B0)
      have B1_6 : Arr (w.heap.size + 1) [.int .i64 p.1, .int .i64 p.2.1, .int .i64 p.2.2.1, .int .i64 p.2.2.2.1, .int .i64 p.2.2.2.2.1, .int .i64 p.2.2.2.2.2] w6 := B1_5.kept k6 (Nat.ne_of_lt y46_B1)
      have B3_6 : Arr w2.heap.size [.int .i64 o0, .int .i64 o1, .int .i64 o2, .int .i64 o3] w6 := B3_5.kept k6 (Nat.ne_of_gt y47_B2)
      have z6 := B3_6.lies
      clear hHeld
      refine hK.out _ _ B1_6 (fun hHeld => ?_)
      clear hK K K5 B0_5 B1_5 f5 B3_5 k6
      refine call_at2 (i0 := 8) (i1 := 9) (by kernel_rfl) rfl rfl (fun K hK => ?_) (fun K hK => ?_)
      · have y66_B0 : w.heap.size < w6.heap.size := B0_6.lies
        have y66_B1 : w.heap.size + 1 < w6.heap.size := B1_6.lies
        have y66_B2 : w1.heap.size < w6.heap.size := f6.lies
        have y66_B3 : w2.heap.size < w6.heap.size := B3_6.lies
        have y66_low : w.heap.size ≤ w6.heap.size := K6.size
        go_simp
        clear hHeld
        refine hK.out _ _ (B1_6.alloc _) (fun hHeld => ?_)
        clear hK K
        refine call_at (i := 9) (by kernel_rfl) rfl (fun K hK => ?_)
        have y67_B0 : w.heap.size < w6.heap.size + 1 := (Nat.lt_succ_of_lt B0_6.lies)
        have y67_B1 : w.heap.size + 1 < w6.heap.size + 1 := (Nat.lt_succ_of_lt B1_6.lies)
        have y67_B2 : w1.heap.size < w6.heap.size + 1 := (Nat.lt_succ_of_lt f6.lies)
        have y67_B3 : w2.heap.size < w6.heap.size + 1 := (Nat.lt_succ_of_lt B3_6.lies)
        have y67_B4 : w6.heap.size < w6.heap.size + 1 := (Nat.lt_succ_self _)
        have y67_low : w.heap.size ≤ w6.heap.size + 1 := (Nat.le_succ_of_le K6.size)
        go_simp
        clear hHeld
        refine hK.out _ _ ((B1_6.alloc _).alloc _) (fun hHeld => ?_)
        clear hK K
        refine call_at (i := 10) (by kernel_rfl) rfl (fun K hK => ?_)
        go_simp
        clear hHeld
        refine hK.out _ _ ((B1_6.alloc _).alloc _) (fun hHeld => ?_)
        clear hK K
        refine call_at (i := 11) (by kernel_rfl) rfl (fun K hK => ?_)
        go_simp
        clear hHeld
        refine hK.out _ _ ((B1_6.alloc _).alloc _) (fun hHeld => ?_)
        clear hK K
        refine wpAnyH_done (by kernel_rfl) ?_ _
        clear hHeld
        exact cont1 _ _ _ _ _ _ _ _ _ _ _ _ _ _ _ _ _ _ _ _ _ _ _ _ _ _ _ _ _ _ _ _ w6.heap.size (w6.heap.size + 1) (bel_al (bel_al K6 _) _) ((B0_6.alloc _).alloc _) ((B1_6.alloc _).alloc _) ((f6.alloc _).alloc _) ((B3_6.alloc _).alloc _) ((Arr_at _ _ [.int .i64 a0, .int .i64 a1, .int .i64 a2] _ (by simp)).alloc _) (Arr_at _ _ [.int .i64 b0, .int .i64 b1, .int .i64 b2] _ (by simp)) y66_low y67_low y66_B0 y66_B1 y66_B2 y66_B3 y67_B0 y67_B1 y67_B2 y67_B3 (Nat.ne_of_lt y67_B4)
      · have y68_B0 : w.heap.size < w6.heap.size := B0_6.lies
        have y68_B1 : w.heap.size + 1 < w6.heap.size := B1_6.lies
        have y68_B2 : w1.heap.size < w6.heap.size := f6.lies
        have y68_B3 : w2.heap.size < w6.heap.size := B3_6.lies
        have y68_low : w.heap.size ≤ w6.heap.size := K6.size
        go_simp
        clear hHeld
        refine hK.out _ _ (B1_6.alloc _) (fun hHeld => ?_)
        clear hK K
        refine call_at (i := 8) (by kernel_rfl) rfl (fun K hK => ?_)
        have y69_B0 : w.heap.size < w6.heap.size + 1 := (Nat.lt_succ_of_lt B0_6.lies)
        have y69_B1 : w.heap.size + 1 < w6.heap.size + 1 := (Nat.lt_succ_of_lt B1_6.lies)
        have y69_B2 : w1.heap.size < w6.heap.size + 1 := (Nat.lt_succ_of_lt f6.lies)
        have y69_B3 : w2.heap.size < w6.heap.size + 1 := (Nat.lt_succ_of_lt B3_6.lies)
        have y69_B4 : w6.heap.size < w6.heap.size + 1 := (Nat.lt_succ_self _)
        have y69_low : w.heap.size ≤ w6.heap.size + 1 := (Nat.le_succ_of_le K6.size)
        go_simp
        clear hHeld
        refine hK.out _ _ ((B1_6.alloc _).alloc _) (fun hHeld => ?_)
        clear hK K
        refine call_at (i := 10) (by kernel_rfl) rfl (fun K hK => ?_)
        go_simp
        clear hHeld
        refine hK.out _ _ ((B1_6.alloc _).alloc _) (fun hHeld => ?_)
        clear hK K
        refine call_at (i := 11) (by kernel_rfl) rfl (fun K hK => ?_)
        go_simp
        clear hHeld
        refine hK.out _ _ ((B1_6.alloc _).alloc _) (fun hHeld => ?_)
        clear hK K
        refine wpAnyH_done (by kernel_rfl) ?_ _
        clear hHeld
        exact cont1 _ _ _ _ _ _ _ _ _ _ _ _ _ _ _ _ _ _ _ _ _ _ _ _ _ _ _ _ _ _ _ _ (w6.heap.size + 1) w6.heap.size (bel_al (bel_al K6 _) _) ((B0_6.alloc _).alloc _) ((B1_6.alloc _).alloc _) ((f6.alloc _).alloc _) ((B3_6.alloc _).alloc _) (Arr_at _ _ [.int .i64 a0, .int .i64 a1, .int .i64 a2] _ (by simp)) ((Arr_at _ _ [.int .i64 b0, .int .i64 b1, .int .i64 b2] _ (by simp)).alloc _) y69_low y68_low y69_B0 y69_B1 y69_B2 y69_B3 y68_B0 y68_B1 y68_B2 y68_B3 (Nat.ne_of_gt y69_B4)
    · have y70_B0 : w.heap.size < w5.heap.size := B0_5.lies
      have y70_B1 : w.heap.size + 1 < w5.heap.size := B1_5.lies
      have y70_B2 : w1.heap.size < w5.heap.size := f5.lies
      have y70_B3 : w2.heap.size < w5.heap.size := B3_5.lies
      have y70_low : w.heap.size ≤ w5.heap.size := K5.size
      go_simp
      clear hHeld
      refine hK.out _ _ (B1_5.alloc _) (fun hHeld => ?_)
      clear hK K
      refine call_at2 (i0 := 7) (i1 := 9) (by kernel_rfl) rfl rfl (fun K hK => ?_) (fun K hK => ?_)
      · go_simp
        refine (vUnit_any w1.heap.size false p.2.2.2 _ (f5.alloc _)).mono ?_
        rintro e w6 ⟨rfl, f6, k6⟩
        rw [hb] at f6 ⊢
        dsimp only at f6 ⊢
        have K6 : Below w.heap.size w w6 := k6.on (bel_al K5 _) (by omega)
        have B0_6 : Arr w.heap.size [.int .i64 q.1, .int .i64 q.2.1, .int .i64 q.2.2.1, .int .i64 q.2.2.2] w6 := (B0_5.alloc _).kept k6 (Nat.ne_of_lt y46_B0)
        have B1_6 : Arr (w.heap.size + 1) [.int .i64 p.1, .int .i64 p.2.1, .int .i64 p.2.2.1, .int .i64 p.2.2.2.1, .int .i64 p.2.2.2.2.1, .int .i64 p.2.2.2.2.2] w6 := (B1_5.alloc _).kept k6 (Nat.ne_of_lt y46_B1)
        have B3_6 : Arr w2.heap.size [.int .i64 o0, .int .i64 o1, .int .i64 o2, .int .i64 o3] w6 := (B3_5.alloc _).kept k6 (Nat.ne_of_gt y47_B2)
        have B4_6 : Arr w5.heap.size [.int .i64 0, .int .i64 0, .int .i64 0] w6 := (Arr_at _ _ [.int .i64 0, .int .i64 0, .int .i64 0] _ (by simp)).kept k6 (Nat.ne_of_gt y70_B2)
        have z6 := B4_6.lies
        clear hHeld
        refine hK.out _ _ B1_6 (fun hHeld => ?_)
        clear hK K K5 B0_5 B1_5 f5 B3_5 k6
        refine call_at (i := 9) (by kernel_rfl) rfl (fun K hK => ?_)
        have y71_B0 : w.heap.size < w6.heap.size := B0_6.lies
        have y71_B1 : w.heap.size + 1 < w6.heap.size := B1_6.lies
        have y71_B2 : w1.heap.size < w6.heap.size := f6.lies
        have y71_B3 : w2.heap.size < w6.heap.size := B3_6.lies
        have y71_B4 : w5.heap.size < w6.heap.size := B4_6.lies
        have y71_low : w.heap.size ≤ w6.heap.size := K6.size
        go_simp
        clear hHeld
        refine hK.out _ _ (B1_6.alloc _) (fun hHeld => ?_)
        clear hK K
        refine call_at (i := 10) (by kernel_rfl) rfl (fun K hK => ?_)
        have c8_B4_0 : w6.cell? ⟨w5.heap.size, 0, none⟩ = some (.int .i64 0) := B4_6.c 0 (of_decide_eq_true rfl)
        have c8_B4_1 : w6.cell? ⟨w5.heap.size, 1, none⟩ = some (.int .i64 0) := B4_6.c 1 (of_decide_eq_true rfl)
        have c8_B4_2 : w6.cell? ⟨w5.heap.size, 2, none⟩ = some (.int .i64 0) := B4_6.c 2 (of_decide_eq_true rfl)
        have g8_B4_0 := B4_6.f 0 (of_decide_eq_true rfl)
        have g8_B4_1 := B4_6.f 1 (of_decide_eq_true rfl)
        have g8_B4_2 := B4_6.f 2 (of_decide_eq_true rfl)
        have l8_B4 := B4_6.lies
        go_simp
        clear hHeld
        refine hK.out _ _ ((((B1_6.new w5.heap.size 0 (Nat.ne_of_lt y70_B1) (.int .i64 a0)).new w5.heap.size 1 (Nat.ne_of_lt y70_B1) (.int .i64 a1)).new w5.heap.size 2 (Nat.ne_of_lt y70_B1) (.int .i64 a2)).alloc _) (fun hHeld => ?_)
        clear hK K c8_B4_0 c8_B4_1 c8_B4_2 g8_B4_0 g8_B4_1 g8_B4_2 l8_B4
        refine call_at (i := 11) (by kernel_rfl) rfl (fun K hK => ?_)
        go_simp
        clear hHeld
        refine hK.out _ _ ((((B1_6.new w5.heap.size 0 (Nat.ne_of_lt y70_B1) (.int .i64 a0)).new w5.heap.size 1 (Nat.ne_of_lt y70_B1) (.int .i64 a1)).new w5.heap.size 2 (Nat.ne_of_lt y70_B1) (.int .i64 a2)).alloc _) (fun hHeld => ?_)
        clear hK K
        refine wpAnyH_done (by kernel_rfl) ?_ _
        clear hHeld
        exact cont1 _ _ _ _ _ _ _ _ _ _ _ _ _ _ _ _ _ _ _ _ _ _ _ _ _ _ _ _ _ _ _ _ w5.heap.size w6.heap.size (bel_al (bel_new (bel_new (bel_new K6 _ _ y70_low _) _ _ y70_low _) _ _ y70_low _) _) ((((B0_6.new w5.heap.size 0 (Nat.ne_of_lt y70_B0) (.int .i64 a0)).new w5.heap.size 1 (Nat.ne_of_lt y70_B0) (.int .i64 a1)).new w5.heap.size 2 (Nat.ne_of_lt y70_B0) (.int .i64 a2)).alloc _) ((((B1_6.new w5.heap.size 0 (Nat.ne_of_lt y70_B1) (.int .i64 a0)).new w5.heap.size 1 (Nat.ne_of_lt y70_B1) (.int .i64 a1)).new w5.heap.size 2 (Nat.ne_of_lt y70_B1) (.int .i64 a2)).alloc _) ((((f6.new w5.heap.size 0 (Nat.ne_of_lt y70_B2) (.int .i64 a0)).new w5.heap.size 1 (Nat.ne_of_lt y70_B2) (.int .i64 a1)).new w5.heap.size 2 (Nat.ne_of_lt y70_B2) (.int .i64 a2)).alloc _) ((((B3_6.new w5.heap.size 0 (Nat.ne_of_lt y70_B3) (.int .i64 a0)).new w5.heap.size 1 (Nat.ne_of_lt y70_B3) (.int .i64 a1)).new w5.heap.size 2 (Nat.ne_of_lt y70_B3) (.int .i64 a2)).alloc _) ((((B4_6.put 0 (of_decide_eq_true rfl) (.int .i64 a0) [.int .i64 a0, .int .i64 0, .int .i64 0] rfl).put 1 (of_decide_eq_true rfl) (.int .i64 a1) [.int .i64 a0, .int .i64 a1, .int .i64 0] rfl).put 2 (of_decide_eq_true rfl) (.int .i64 a2) [.int .i64 a0, .int .i64 a1, .int .i64 a2] rfl).alloc _) (Arr_at _ _ [.int .i64 b0, .int .i64 b1, .int .i64 b2] _ (by simp)) y70_low y71_low y70_B0 y70_B1 y70_B2 y70_B3 y71_B0 y71_B1 y71_B2 y71_B3 (Nat.ne_of_lt y71_B4)
      · have y72_B0 : w.heap.size < w5.heap.size + 1 := (Nat.lt_succ_of_lt B0_5.lies)
        have y72_B1 : w.heap.size + 1 < w5.heap.size + 1 := (Nat.lt_succ_of_lt B1_5.lies)
        have y72_B2 : w1.heap.size < w5.heap.size + 1 := (Nat.lt_succ_of_lt f5.lies)
        have y72_B3 : w2.heap.size < w5.heap.size + 1 := (Nat.lt_succ_of_lt B3_5.lies)
        have y72_B4 : w5.heap.size < w5.heap.size + 1 := (Nat.lt_succ_self _)
        have y72_low : w.heap.size ≤ w5.heap.size + 1 := (Nat.le_succ_of_le K5.size)
        go_simp
        clear hHeld
        refine hK.out _ _ ((B1_5.alloc _).alloc _) (fun hHeld => ?_)
        clear hK K
        refine call_at (i := 7) (by kernel_rfl) rfl (fun K hK => ?_)
        go_simp
        refine (vUnit_any w1.heap.size false p.2.2.2 _ ((f5.alloc _).alloc _)).mono ?_
        rintro e w6 ⟨rfl, f6, k6⟩
        rw [hb] at f6 ⊢
        dsimp only at f6 ⊢
        have K6 : Below w.heap.size w w6 := k6.on (bel_al (bel_al K5 _) _) (by omega)
        have B0_6 : Arr w.heap.size [.int .i64 q.1, .int .i64 q.2.1, .int .i64 q.2.2.1, .int .i64 q.2.2.2] w6 := ((B0_5.alloc _).alloc _).kept k6 (Nat.ne_of_lt y46_B0)
        have B1_6 : Arr (w.heap.size + 1) [.int .i64 p.1, .int .i64 p.2.1, .int .i64 p.2.2.1, .int .i64 p.2.2.2.1, .int .i64 p.2.2.2.2.1, .int .i64 p.2.2.2.2.2] w6 := ((B1_5.alloc _).alloc _).kept k6 (Nat.ne_of_lt y46_B1)
        have B3_6 : Arr w2.heap.size [.int .i64 o0, .int .i64 o1, .int .i64 o2, .int .i64 o3] w6 := ((B3_5.alloc _).alloc _).kept k6 (Nat.ne_of_gt y47_B2)
        have B4_6 : Arr w5.heap.size [.int .i64 0, .int .i64 0, .int .i64 0] w6 := ((Arr_at _ _ [.int .i64 0, .int .i64 0, .int .i64 0] _ (by simp)).alloc _).kept k6 (Nat.ne_of_gt y70_B2)
        have B5_6 : Arr (w5.heap.size + 1) [.int .i64 0, .int .i64 0, .int .i64 0] w6 := (Arr_at _ _ [.int .i64 0, .int .i64 0, .int .i64 0] _ (by simp)).kept k6 (Nat.ne_of_gt y72_B2)
        have z6 := B5_6.lies
        clear hHeld
        refine hK.out _ _ B1_6 (fun hHeld => ?_)
        clear hK K K5 B0_5 B1_5 f5 B3_5 k6
        refine call_at (i := 10) (by kernel_rfl) rfl (fun K hK => ?_)
        have c8_B4_0 : w6.cell? ⟨w5.heap.size, 0, none⟩ = some (.int .i64 0) := B4_6.c 0 (of_decide_eq_true rfl)
        have c8_B4_1 : w6.cell? ⟨w5.heap.size, 1, none⟩ = some (.int .i64 0) := B4_6.c 1 (of_decide_eq_true rfl)
        have c8_B4_2 : w6.cell? ⟨w5.heap.size, 2, none⟩ = some (.int .i64 0) := B4_6.c 2 (of_decide_eq_true rfl)
        have g8_B4_0 := B4_6.f 0 (of_decide_eq_true rfl)
        have g8_B4_1 := B4_6.f 1 (of_decide_eq_true rfl)
        have g8_B4_2 := B4_6.f 2 (of_decide_eq_true rfl)
        go_simp
        clear hHeld
        refine hK.out _ _ (((B1_6.new w5.heap.size 0 (Nat.ne_of_lt y70_B1) (.int .i64 a0)).new w5.heap.size 1 (Nat.ne_of_lt y70_B1) (.int .i64 a1)).new w5.heap.size 2 (Nat.ne_of_lt y70_B1) (.int .i64 a2)) (fun hHeld => ?_)
        clear hK K c8_B4_0 c8_B4_1 c8_B4_2 g8_B4_0 g8_B4_1 g8_B4_2
        refine call_at (i := 11) (by kernel_rfl) rfl (fun K hK => ?_)
        have c9_B5_0 : w6.cell? ⟨w5.heap.size + 1, 0, none⟩ = some (.int .i64 0) := B5_6.c 0 (of_decide_eq_true rfl)
        have c9_B5_1 : w6.cell? ⟨w5.heap.size + 1, 1, none⟩ = some (.int .i64 0) := B5_6.c 1 (of_decide_eq_true rfl)
        have c9_B5_2 : w6.cell? ⟨w5.heap.size + 1, 2, none⟩ = some (.int .i64 0) := B5_6.c 2 (of_decide_eq_true rfl)
        have g9_B5_0 := B5_6.f 0 (of_decide_eq_true rfl)
        have g9_B5_1 := B5_6.f 1 (of_decide_eq_true rfl)
        have g9_B5_2 := B5_6.f 2 (of_decide_eq_true rfl)
        go_simp
        clear hHeld
        refine hK.out _ _ ((((((B1_6.new w5.heap.size 0 (Nat.ne_of_lt y70_B1) (.int .i64 a0)).new w5.heap.size 1 (Nat.ne_of_lt y70_B1) (.int .i64 a1)).new w5.heap.size 2 (Nat.ne_of_lt y70_B1) (.int .i64 a2)).new (w5.heap.size + 1) 0 (Nat.ne_of_lt y72_B1) (.int .i64 b0)).new (w5.heap.size + 1) 1 (Nat.ne_of_lt y72_B1) (.int .i64 b1)).new (w5.heap.size + 1) 2 (Nat.ne_of_lt y72_B1) (.int .i64 b2)) (fun hHeld => ?_)
        clear hK K c9_B5_0 c9_B5_1 c9_B5_2 g9_B5_0 g9_B5_1 g9_B5_2
        refine wpAnyH_done (by kernel_rfl) ?_ _
        clear hHeld
        exact cont1 _ _ _ _ _ _ _ _ _ _ _ _ _ _ _ _ _ _ _ _ _ _ _ _ _ _ _ _ _ _ _ _ w5.heap.size (w5.heap.size + 1) (bel_new (bel_new (bel_new (bel_new (bel_new (bel_new K6 _ _ y70_low _) _ _ y70_low _) _ _ y70_low _) _ _ y72_low _) _ _ y72_low _) _ _ y72_low _) ((((((B0_6.new w5.heap.size 0 (Nat.ne_of_lt y70_B0) (.int .i64 a0)).new w5.heap.size 1 (Nat.ne_of_lt y70_B0) (.int .i64 a1)).new w5.heap.size 2 (Nat.ne_of_lt y70_B0) (.int .i64 a2)).new (w5.heap.size + 1) 0 (Nat.ne_of_lt y72_B0) (.int .i64 b0)).new (w5.heap.size + 1) 1 (Nat.ne_of_lt y72_B0) (.int .i64 b1)).new (w5.heap.size + 1) 2 (Nat.ne_of_lt y72_B0) (.int .i64 b2)) ((((((B1_6.new w5.heap.size 0 (Nat.ne_of_lt y70_B1) (.int .i64 a0)).new w5.heap.size 1 (Nat.ne_of_lt y70_B1) (.int .i64 a1)).new w5.heap.size 2 (Nat.ne_of_lt y70_B1) (.int .i64 a2)).new (w5.heap.size + 1) 0 (Nat.ne_of_lt y72_B1) (.int .i64 b0)).new (w5.heap.size + 1) 1 (Nat.ne_of_lt y72_B1) (.int .i64 b1)).new (w5.heap.size + 1) 2 (Nat.ne_of_lt y72_B1) (.int .i64 b2)) ((((((f6.new w5.heap.size 0 (Nat.ne_of_lt y70_B2) (.int .i64 a0)).new w5.heap.size 1 (Nat.ne_of_lt y70_B2) (.int .i64 a1)).new w5.heap.size 2 (Nat.ne_of_lt y70_B2) (.int .i64 a2)).new (w5.heap.size + 1) 0 (Nat.ne_of_lt y72_B2) (.int .i64 b0)).new (w5.heap.size + 1) 1 (Nat.ne_of_lt y72_B2) (.int .i64 b1)).new (w5.heap.size + 1) 2 (Nat.ne_of_lt y72_B2) (.int .i64 b2)) ((((((B3_6.new w5.heap.size 0 (Nat.ne_of_lt y70_B3) (.int .i64 a0)).new w5.heap.size 1 (Nat.ne_of_lt y70_B3) (.int .i64 a1)).new w5.heap.size 2 (Nat.ne_of_lt y70_B3) (.int .i64 a2)).new (w5.heap.size + 1) 0 (Nat.ne_of_lt y72_B3) (.int .i64 b0)).new (w5.heap.size + 1) 1 (Nat.ne_of_lt y72_B3) (.int .i64 b1)).new (w5.heap.size + 1) 2 (Nat.ne_of_lt y72_B3) (.int .i64 b2)) ((((((B4_6.put 0 (of_decide_eq_true rfl) (.int .i64 a0) [.int .i64 a0, .int .i64 0, .int .i64 0] rfl).put 1 (of_decide_eq_true rfl) (.int .i64 a1) [.int .i64 a0, .int .i64 a1, .int .i64 0] rfl).put 2 (of_decide_eq_true rfl) (.int .i64 a2) [.int .i64 a0, .int .i64 a1, .int .i64 a2] rfl).new (w5.heap.size + 1) 0 (Nat.ne_of_lt y72_B4) (.int .i64 b0)).new (w5.heap.size + 1) 1 (Nat.ne_of_lt y72_B4) (.int .i64 b1)).new (w5.heap.size + 1) 2 (Nat.ne_of_lt y72_B4) (.int .i64 b2)) ((((((B5_6.new w5.heap.size 0 (Nat.ne_of_gt y72_B4) (.int .i64 a0)).new w5.heap.size 1 (Nat.ne_of_gt y72_B4) (.int .i64 a1)).new w5.heap.size 2 (Nat.ne_of_gt y72_B4) (.int .i64 a2)).put 0 (of_decide_eq_true rfl) (.int .i64 b0) [.int .i64 b0, .int .i64 0, .int .i64 0] rfl).put 1 (of_decide_eq_true rfl) (.int .i64 b1) [.int .i64 b0, .int .i64 b1, .int .i64 0] rfl).put 2 (of_decide_eq_true rfl) (.int .i64 b2) [.int .i64 b0, .int .i64 b1, .int .i64 b2] rfl) y70_low y72_low y70_B0 y70_B1 y70_B2 y70_B3 y72_B0 y72_B1 y72_B2 y72_B3 (Nat.ne_of_lt y72_B4)
    · have y73_B0 : w.heap.size < w5.heap.size := B0_5.lies
      have y73_B1 : w.heap.size + 1 < w5.heap.size := B1_5.lies
      have y73_B2 : w1.heap.size < w5.heap.size := f5.lies
      have y73_B3 : w2.heap.size < w5.heap.size := B3_5.lies
      have y73_low : w.heap.size ≤ w5.heap.size := K5.size
      go_simp
      clear hHeld
      refine hK.out _ _ (B1_5.alloc _) (fun hHeld => ?_)
      clear hK K
      refine call_at2 (i0 := 7) (i1 := 8) (by kernel_rfl) rfl rfl (fun K hK => ?_) (fun K hK => ?_)
      · go_simp
        refine (vUnit_any w1.heap.size false p.2.2.2 _ (f5.alloc _)).mono ?_
        rintro e w6 ⟨rfl, f6, k6⟩
        rw [hb] at f6 ⊢
        dsimp only at f6 ⊢
        have K6 : Below w.heap.size w w6 := k6.on (bel_al K5 _) (by omega)
        have B0_6 : Arr w.heap.size [.int .i64 q.1, .int .i64 q.2.1, .int .i64 q.2.2.1, .int .i64 q.2.2.2] w6 := (B0_5.alloc _).kept k6 (Nat.ne_of_lt y46_B0)
        have B1_6 : Arr (w.heap.size + 1) [.int .i64 p.1, .int .i64 p.2.1, .int .i64 p.2.2.1, .int .i64 p.2.2.2.1, .int .i64 p.2.2.2.2.1, .int .i64 p.2.2.2.2.2] w6 := (B1_5.alloc _).kept k6 (Nat.ne_of_lt y46_B1)
        have B3_6 : Arr w2.heap.size [.int .i64 o0, .int .i64 o1, .int .i64 o2, .int .i64 o3] w6 := (B3_5.alloc _).kept k6 (Nat.ne_of_gt y47_B2)
        have B4_6 : Arr w5.heap.size [.int .i64 0, .int .i64 0, .int .i64 0] w6 := (Arr_at _ _ [.int .i64 0, .int .i64 0, .int .i64 0] _ (by simp)).kept k6 (Nat.ne_of_gt y73_B2)
        have z6 := B4_6.lies
        clear hHeld
        refine hK.out _ _ B1_6 (fun hHeld => ?_)
        clear hK K K5 B0_5 B1_5 f5 B3_5 k6
        refine call_at (i := 8) (by kernel_rfl) rfl (fun K hK => ?_)
        have y74_B0 : w.heap.size < w6.heap.size := B0_6.lies
        have y74_B1 : w.heap.size + 1 < w6.heap.size := B1_6.lies
        have y74_B2 : w1.heap.size < w6.heap.size := f6.lies
        have y74_B3 : w2.heap.size < w6.heap.size := B3_6.lies
        have y74_B4 : w5.heap.size < w6.heap.size := B4_6.lies
        have y74_low : w.heap.size ≤ w6.heap.size := K6.size
        go_simp
        clear hHeld
        refine hK.out _ _ (B1_6.alloc _) (fun hHeld => ?_)
        clear hK K
        refine call_at (i := 10) (by kernel_rfl) rfl (fun K hK => ?_)
        go_simp
        clear hHeld
        refine hK.out _ _ (B1_6.alloc _) (fun hHeld => ?_)
        clear hK K
        refine call_at (i := 11) (by kernel_rfl) rfl (fun K hK => ?_)
        have c9_B4_0 : w6.cell? ⟨w5.heap.size, 0, none⟩ = some (.int .i64 0) := B4_6.c 0 (of_decide_eq_true rfl)
        have c9_B4_1 : w6.cell? ⟨w5.heap.size, 1, none⟩ = some (.int .i64 0) := B4_6.c 1 (of_decide_eq_true rfl)
        have c9_B4_2 : w6.cell? ⟨w5.heap.size, 2, none⟩ = some (.int .i64 0) := B4_6.c 2 (of_decide_eq_true rfl)
        have g9_B4_0 := B4_6.f 0 (of_decide_eq_true rfl)
        have g9_B4_1 := B4_6.f 1 (of_decide_eq_true rfl)
        have g9_B4_2 := B4_6.f 2 (of_decide_eq_true rfl)
        have l9_B4 := B4_6.lies
        go_simp
        clear hHeld
        refine hK.out _ _ ((((B1_6.new w5.heap.size 0 (Nat.ne_of_lt y73_B1) (.int .i64 b0)).new w5.heap.size 1 (Nat.ne_of_lt y73_B1) (.int .i64 b1)).new w5.heap.size 2 (Nat.ne_of_lt y73_B1) (.int .i64 b2)).alloc _) (fun hHeld => ?_)
        clear hK K c9_B4_0 c9_B4_1 c9_B4_2 g9_B4_0 g9_B4_1 g9_B4_2 l9_B4
        refine wpAnyH_done (by kernel_rfl) ?_ _
        clear hHeld
        exact cont1 _ _ _ _ _ _ _ _ _ _ _ _ _ _ _ _ _ _ _ _ _ _ _ _ _ _ _ _ _ _ _ _ w6.heap.size w5.heap.size (bel_al (bel_new (bel_new (bel_new K6 _ _ y73_low _) _ _ y73_low _) _ _ y73_low _) _) ((((B0_6.new w5.heap.size 0 (Nat.ne_of_lt y73_B0) (.int .i64 b0)).new w5.heap.size 1 (Nat.ne_of_lt y73_B0) (.int .i64 b1)).new w5.heap.size 2 (Nat.ne_of_lt y73_B0) (.int .i64 b2)).alloc _) ((((B1_6.new w5.heap.size 0 (Nat.ne_of_lt y73_B1) (.int .i64 b0)).new w5.heap.size 1 (Nat.ne_of_lt y73_B1) (.int .i64 b1)).new w5.heap.size 2 (Nat.ne_of_lt y73_B1) (.int .i64 b2)).alloc _) ((((f6.new w5.heap.size 0 (Nat.ne_of_lt y73_B2) (.int .i64 b0)).new w5.heap.size 1 (Nat.ne_of_lt y73_B2) (.int .i64 b1)).new w5.heap.size 2 (Nat.ne_of_lt y73_B2) (.int .i64 b2)).alloc _) ((((B3_6.new w5.heap.size 0 (Nat.ne_of_lt y73_B3) (.int .i64 b0)).new w5.heap.size 1 (Nat.ne_of_lt y73_B3) (.int .i64 b1)).new w5.heap.size 2 (Nat.ne_of_lt y73_B3) (.int .i64 b2)).alloc _) (Arr_at _ _ [.int .i64 a0, .int .i64 a1, .int .i64 a2] _ (by simp)) ((((B4_6.put 0 (of_decide_eq_true rfl) (.int .i64 b0) [.int .i64 b0, .int .i64 0, .int .i64 0] rfl).put 1 (of_decide_eq_true rfl) (.int .i64 b1) [.int .i64 b0, .int .i64 b1, .int .i64 0] rfl).put 2 (of_decide_eq_true rfl) (.int .i64 b2) [.int .i64 b0, .int .i64 b1, .int .i64 b2] rfl).alloc _) y74_low y73_low y74_B0 y74_B1 y74_B2 y74_B3 y73_B0 y73_B1 y73_B2 y73_B3 (Nat.ne_of_gt y74_B4)
      · have y75_B0 : w.heap.size < w5.heap.size + 1 := (Nat.lt_succ_of_lt B0_5.lies)
        have y75_B1 : w.heap.size + 1 < w5.heap.size + 1 := (Nat.lt_succ_of_lt B1_5.lies)
        have y75_B2 : w1.heap.size < w5.heap.size + 1 := (Nat.lt_succ_of_lt f5.lies)
        have y75_B3 : w2.heap.size < w5.heap.size + 1 := (Nat.lt_succ_of_lt B3_5.lies)
        have y75_B4 : w5.heap.size < w5.heap.size + 1 := (Nat.lt_succ_self _)
        have y75_low : w.heap.size ≤ w5.heap.size + 1 := (Nat.le_succ_of_le K5.size)
        go_simp
        clear hHeld
        refine hK.out _ _ ((B1_5.alloc _).alloc _) (fun hHeld => ?_)
        clear hK K
        refine call_at (i := 7) (by kernel_rfl) rfl (fun K hK => ?_)
        go_simp
        refine (vUnit_any w1.heap.size false p.2.2.2 _ ((f5.alloc _).alloc _)).mono ?_
        rintro e w6 ⟨rfl, f6, k6⟩
        rw [hb] at f6 ⊢
        dsimp only at f6 ⊢
        have K6 : Below w.heap.size w w6 := k6.on (bel_al (bel_al K5 _) _) (by omega)
        have B0_6 : Arr w.heap.size [.int .i64 q.1, .int .i64 q.2.1, .int .i64 q.2.2.1, .int .i64 q.2.2.2] w6 := ((B0_5.alloc _).alloc _).kept k6 (Nat.ne_of_lt y46_B0)
        have B1_6 : Arr (w.heap.size + 1) [.int .i64 p.1, .int .i64 p.2.1, .int .i64 p.2.2.1, .int .i64 p.2.2.2.1, .int .i64 p.2.2.2.2.1, .int .i64 p.2.2.2.2.2] w6 := ((B1_5.alloc _).alloc _).kept k6 (Nat.ne_of_lt y46_B1)
        have B3_6 : Arr w2.heap.size [.int .i64 o0, .int .i64 o1, .int .i64 o2, .int .i64 o3] w6 := ((B3_5.alloc _).alloc _).kept k6 (Nat.ne_of_gt y47_B2)
        have B4_6 : Arr w5.heap.size [.int .i64 0, .int .i64 0, .int .i64 0] w6 := ((Arr_at _ _ [.int .i64 0, .int .i64 0, .int .i64 0] _ (by simp)).alloc _).kept k6 (Nat.ne_of_gt y73_B2)
        have B5_6 : Arr (w5.heap.size + 1) [.int .i64 0, .int .i64 0, .int .i64 0] w6 := (Arr_at _ _ [.int .i64 0, .int .i64 0, .int .i64 0] _ (by simp)).kept k6 (Nat.ne_of_gt y75_B2)
        have z6 := B5_6.lies
        clear hHeld
        refine hK.out _ _ B1_6 (fun hHeld => ?_)
        clear hK K K5 B0_5 B1_5 f5 B3_5 k6
        refine call_at (i := 10) (by kernel_rfl) rfl (fun K hK => ?_)
        have c8_B5_0 : w6.cell? ⟨w5.heap.size + 1, 0, none⟩ = some (.int .i64 0) := B5_6.c 0 (of_decide_eq_true rfl)
        have c8_B5_1 : w6.cell? ⟨w5.heap.size + 1, 1, none⟩ = some (.int .i64 0) := B5_6.c 1 (of_decide_eq_true rfl)
        have c8_B5_2 : w6.cell? ⟨w5.heap.size + 1, 2, none⟩ = some (.int .i64 0) := B5_6.c 2 (of_decide_eq_true rfl)
        have g8_B5_0 := B5_6.f 0 (of_decide_eq_true rfl)
        have g8_B5_1 := B5_6.f 1 (of_decide_eq_true rfl)
        have g8_B5_2 := B5_6.f 2 (of_decide_eq_true rfl)
        go_simp
        clear hHeld
        refine hK.out _ _ (((B1_6.new (w5.heap.size + 1) 0 (Nat.ne_of_lt y75_B1) (.int .i64 a0)).new (w5.heap.size + 1) 1 (Nat.ne_of_lt y75_B1) (.int .i64 a1)).new (w5.heap.size + 1) 2 (Nat.ne_of_lt y75_B1) (.int .i64 a2)) (fun hHeld => ?_)
        clear hK K c8_B5_0 c8_B5_1 c8_B5_2 g8_B5_0 g8_B5_1 g8_B5_2
        refine call_at (i := 11) (by kernel_rfl) rfl (fun K hK => ?_)
        have c9_B4_0 : w6.cell? ⟨w5.heap.size, 0, none⟩ = some (.int .i64 0) := B4_6.c 0 (of_decide_eq_true rfl)
        have c9_B4_1 : w6.cell? ⟨w5.heap.size, 1, none⟩ = some (.int .i64 0) := B4_6.c 1 (of_decide_eq_true rfl)
        have c9_B4_2 : w6.cell? ⟨w5.heap.size, 2, none⟩ = some (.int .i64 0) := B4_6.c 2 (of_decide_eq_true rfl)
        have g9_B4_0 := B4_6.f 0 (of_decide_eq_true rfl)
        have g9_B4_1 := B4_6.f 1 (of_decide_eq_true rfl)
        have g9_B4_2 := B4_6.f 2 (of_decide_eq_true rfl)
        go_simp
        clear hHeld
        refine hK.out _ _ ((((((B1_6.new (w5.heap.size + 1) 0 (Nat.ne_of_lt y75_B1) (.int .i64 a0)).new (w5.heap.size + 1) 1 (Nat.ne_of_lt y75_B1) (.int .i64 a1)).new (w5.heap.size + 1) 2 (Nat.ne_of_lt y75_B1) (.int .i64 a2)).new w5.heap.size 0 (Nat.ne_of_lt y73_B1) (.int .i64 b0)).new w5.heap.size 1 (Nat.ne_of_lt y73_B1) (.int .i64 b1)).new w5.heap.size 2 (Nat.ne_of_lt y73_B1) (.int .i64 b2)) (fun hHeld => ?_)
        clear hK K c9_B4_0 c9_B4_1 c9_B4_2 g9_B4_0 g9_B4_1 g9_B4_2
        refine wpAnyH_done (by kernel_rfl) ?_ _
        clear hHeld
        exact cont1 _ _ _ _ _ _ _ _ _ _ _ _ _ _ _ _ _ _ _ _ _ _ _ _ _ _ _ _ _ _ _ _ (w5.heap.size + 1) w5.heap.size (bel_new (bel_new (bel_new (bel_new (bel_new (bel_new K6 _ _ y75_low _) _ _ y75_low _) _ _ y75_low _) _ _ y73_low _) _ _ y73_low _) _ _ y73_low _) ((((((B0_6.new (w5.heap.size + 1) 0 (Nat.ne_of_lt y75_B0) (.int .i64 a0)).new (w5.heap.size + 1) 1 (Nat.ne_of_lt y75_B0) (.int .i64 a1)).new (w5.heap.size + 1) 2 (Nat.ne_of_lt y75_B0) (.int .i64 a2)).new w5.heap.size 0 (Nat.ne_of_lt y73_B0) (.int .i64 b0)).new w5.heap.size 1 (Nat.ne_of_lt y73_B0) (.int .i64 b1)).new w5.heap.size 2 (Nat.ne_of_lt y73_B0) (.int .i64 b2)) ((((((B1_6.new (w5.heap.size + 1) 0 (Nat.ne_of_lt y75_B1) (.int .i64 a0)).new (w5.heap.size + 1) 1 (Nat.ne_of_lt y75_B1) (.int .i64 a1)).new (w5.heap.size + 1) 2 (Nat.ne_of_lt y75_B1) (.int .i64 a2)).new w5.heap.size 0 (Nat.ne_of_lt y73_B1) (.int .i64 b0)).new w5.heap.size 1 (Nat.ne_of_lt y73_B1) (.int .i64 b1)).new w5.heap.size 2 (Nat.ne_of_lt y73_B1) (.int .i64 b2)) ((((((f6.new (w5.heap.size + 1) 0 (Nat.ne_of_lt y75_B2) (.int .i64 a0)).new (w5.heap.size + 1) 1 (Nat.ne_of_lt y75_B2) (.int .i64 a1)).new (w5.heap.size + 1) 2 (Nat.ne_of_lt y75_B2) (.int .i64 a2)).new w5.heap.size 0 (Nat.ne_of_lt y73_B2) (.int .i64 b0)).new w5.heap.size 1 (Nat.ne_of_lt y73_B2) (.int .i64 b1)).new w5.heap.size 2 (Nat.ne_of_lt y73_B2) (.int .i64 b2)) ((((((B3_6.new (w5.heap.size + 1) 0 (Nat.ne_of_lt y75_B3) (.int .i64 a0)).new (w5.heap.size + 1) 1 (Nat.ne_of_lt y75_B3) (.int .i64 a1)).new (w5.heap.size + 1) 2 (Nat.ne_of_lt y75_B3) (.int .i64 a2)).new w5.heap.size 0 (Nat.ne_of_lt y73_B3) (.int .i64 b0)).new w5.heap.size 1 (Nat.ne_of_lt y73_B3) (.int .i64 b1)).new w5.heap.size 2 (Nat.ne_of_lt y73_B3) (.int .i64 b2)) ((((((B5_6.put 0 (of_decide_eq_true rfl) (.int .i64 a0) [.int .i64 a0, .int .i64 0, .int .i64 0] rfl).put 1 (of_decide_eq_true rfl) (.int .i64 a1) [.int .i64 a0, .int .i64 a1, .int .i64 0] rfl).put 2 (of_decide_eq_true rfl) (.int .i64 a2) [.int .i64 a0, .int .i64 a1, .int .i64 a2] rfl).new w5.heap.size 0 (Nat.ne_of_gt y75_B4) (.int .i64 b0)).new w5.heap.size 1 (Nat.ne_of_gt y75_B4) (.int .i64 b1)).new w5.heap.size 2 (Nat.ne_of_gt y75_B4) (.int .i64 b2)) ((((((B4_6.new (w5.heap.size + 1) 0 (Nat.ne_of_lt y75_B4) (.int .i64 a0)).new (w5.heap.size + 1) 1 (Nat.ne_of_lt y75_B4) (.int .i64 a1)).new (w5.heap.size + 1) 2 (Nat.ne_of_lt y75_B4) (.int .i64 a2)).put 0 (of_decide_eq_true rfl) (.int .i64 b0) [.int .i64 b0, .int .i64 0, .int .i64 0] rfl).put 1 (of_decide_eq_true rfl) (.int .i64 b1) [.int .i64 b0, .int .i64 b1, .int .i64 0] rfl).put 2 (of_decide_eq_true rfl) (.int .i64 b2) [.int .i64 b0, .int .i64 b1, .int .i64 b2] rfl) y75_low y73_low y75_B0 y75_B1 y75_B2 y75_B3 y73_B0 y73_B1 y73_B2 y73_B3 (Nat.ne_of_gt y75_B4)
  · have y76_B0 : w.heap.size < w4.heap.size := B0_4.lies
    have y76_B1 : w.heap.size + 1 < w4.heap.size := B1_4.lies
    have y76_B2 : w1.heap.size < w4.heap.size := B2_4.lies
    have y76_B3 : w2.heap.size < w4.heap.size := B3_4.lies
    have y76_low : w.heap.size ≤ w4.heap.size := K4.size
    go_simp
    clear hHeld
    refine hK.out _ _ (B1_4.alloc _).drew (fun hHeld => ?_)
    clear hK K
    refine call_at2 (i0 := 3) (i1 := 9) (by kernel_rfl) rfl rfl (fun K hK => ?_) (fun K hK => ?_)
    · go_simp
      refine (vUnit_any w1.heap.size false (p.1, p.2.1, p.2.2.1) _ (B2_4.alloc _).drew).mono ?_
      rintro e w5 ⟨rfl, f5, k5⟩
      rw [ha] at f5 ⊢
      dsimp only at f5 ⊢
      have K5 : Below w.heap.size w w5 := k5.on (Below.drew (bel_al K4 _)) (by omega)
      have B0_5 : Arr w.heap.size [.int .i64 q.1, .int .i64 q.2.1, .int .i64 q.2.2.1, .int .i64 q.2.2.2] w5 := (B0_4.alloc _).drew.kept k5 (Nat.ne_of_lt y46_B0)
      have B1_5 : Arr (w.heap.size + 1) [.int .i64 p.1, .int .i64 p.2.1, .int .i64 p.2.2.1, .int .i64 p.2.2.2.1, .int .i64 p.2.2.2.2.1, .int .i64 p.2.2.2.2.2] w5 := (B1_4.alloc _).drew.kept k5 (Nat.ne_of_lt y46_B1)
      have B3_5 : Arr w2.heap.size [.int .i64 o0, .int .i64 o1, .int .i64 o2, .int .i64 o3] w5 := (B3_4.alloc _).drew.kept k5 (Nat.ne_of_gt y47_B2)
      have B4_5 : Arr w4.heap.size [.int .i64 0, .int .i64 0, .int .i64 0] w5 := (Arr_at _ _ [.int .i64 0, .int .i64 0, .int .i64 0] _ (by simp)).drew.kept k5 (Nat.ne_of_gt y76_B2)
      have z5 := B4_5.lies
      clear hHeld
      refine hK.out _ _ B1_5 (fun hHeld => ?_)
      clear hK K K4 B0_4 B1_4 B2_4 B3_4 k5
      refine call_at2 (i0 := 7) (i1 := 9) (by kernel_rfl) rfl rfl (fun K hK => ?_) (fun K hK => ?_)
      · go_simp
        refine (vUnit_any w1.heap.size false p.2.2.2 _ f5).mono ?_
        rintro e w6 ⟨rfl, f6, k6⟩
        rw [hb] at f6 ⊢
        dsimp only at f6 ⊢
        have K6 : Below w.heap.size w w6 := k6.on K5 (by omega)
        have B0_6 : Arr w.heap.size [.int .i64 q.1, .int .i64 q.2.1, .int .i64 q.2.2.1, .int .i64 q.2.2.2] w6 := B0_5.kept k6 (Nat.ne_of_lt y46_B0)
        have B1_6 : Arr (w.heap.size + 1) [.int .i64 p.1, .int .i64 p.2.1, .int .i64 p.2.2.1, .int .i64 p.2.2.2.1, .int .i64 p.2.2.2.2.1, .int .i64 p.2.2.2.2.2] w6 := B1_5.kept k6 (Nat.ne_of_lt y46_B1)
        have B3_6 : Arr w2.heap.size [.int .i64 o0, .int .i64 o1, .int .i64 o2, .int .i64 o3] w6 := B3_5.kept k6 (Nat.ne_of_gt y47_B2)
        have B4_6 : Arr w4.heap.size [.int .i64 0, .int .i64 0, .int .i64 0] w6 := B4_5.kept k6 (Nat.ne_of_gt y76_B2)
        have z6 := B4_6.lies
        clear hHeld
        refine hK.out _ _ B1_6 (fun hHeld => ?_)
        clear hK K K5 B0_5 B1_5 f5 B3_5 B4_5 k6
        refine call_at (i := 9) (by kernel_rfl) rfl (fun K hK => ?_)
        have y77_B0 : w.heap.size < w6.heap.size := B0_6.lies
        have y77_B1 : w.heap.size + 1 < w6.heap.size := B1_6.lies
        have y77_B2 : w1.heap.size < w6.heap.size := f6.lies
        have y77_B3 : w2.heap.size < w6.heap.size := B3_6.lies
        have y77_B4 : w4.heap.size < w6.heap.size := B4_6.lies
        have y77_low : w.heap.size ≤ w6.heap.size := K6.size
        go_simp
        clear hHeld
        refine hK.out _ _ (B1_6.alloc _) (fun hHeld => ?_)
        clear hK K
        refine call_at (i := 10) (by kernel_rfl) rfl (fun K hK => ?_)
        have c8_B4_0 : w6.cell? ⟨w4.heap.size, 0, none⟩ = some (.int .i64 0) := B4_6.c 0 (of_decide_eq_true rfl)
        have c8_B4_1 : w6.cell? ⟨w4.heap.size, 1, none⟩ = some (.int .i64 0) := B4_6.c 1 (of_decide_eq_true rfl)
        have c8_B4_2 : w6.cell? ⟨w4.heap.size, 2, none⟩ = some (.int .i64 0) := B4_6.c 2 (of_decide_eq_true rfl)
        have g8_B4_0 := B4_6.f 0 (of_decide_eq_true rfl)
        have g8_B4_1 := B4_6.f 1 (of_decide_eq_true rfl)
        have g8_B4_2 := B4_6.f 2 (of_decide_eq_true rfl)
        have l8_B4 := B4_6.lies
        go_simp
        clear hHeld
        refine hK.out _ _ ((((B1_6.new w4.heap.size 0 (Nat.ne_of_lt y76_B1) (.int .i64 a0)).new w4.heap.size 1 (Nat.ne_of_lt y76_B1) (.int .i64 a1)).new w4.heap.size 2 (Nat.ne_of_lt y76_B1) (.int .i64 a2)).alloc _) (fun hHeld => ?_)
        clear hK K c8_B4_0 c8_B4_1 c8_B4_2 g8_B4_0 g8_B4_1 g8_B4_2 l8_B4
        refine call_at (i := 11) (by kernel_rfl) rfl (fun K hK => ?_)
        go_simp
        clear hHeld
        refine hK.out _ _ ((((B1_6.new w4.heap.size 0 (Nat.ne_of_lt y76_B1) (.int .i64 a0)).new w4.heap.size 1 (Nat.ne_of_lt y76_B1) (.int .i64 a1)).new w4.heap.size 2 (Nat.ne_of_lt y76_B1) (.int .i64 a2)).alloc _) (fun hHeld => ?_)
        clear hK K
        refine wpAnyH_done (by kernel_rfl) ?_ _
        clear hHeld
        exact cont1 _ _ _ _ _ _ _ _ _ _ _ _ _ _ _ _ _ _ _ _ _ _ _ _ _ _ _ _ _ _ _ _ w4.heap.size w6.heap.size (bel_al (bel_new (bel_new (bel_new K6 _ _ y76_low _) _ _ y76_low _) _ _ y76_low _) _) ((((B0_6.new w4.heap.size 0 (Nat.ne_of_lt y76_B0) (.int .i64 a0)).new w4.heap.size 1 (Nat.ne_of_lt y76_B0) (.int .i64 a1)).new w4.heap.size 2 (Nat.ne_of_lt y76_B0) (.int .i64 a2)).alloc _) ((((B1_6.new w4.heap.size 0 (Nat.ne_of_lt y76_B1) (.int .i64 a0)).new w4.heap.size 1 (Nat.ne_of_lt y76_B1) (.int .i64 a1)).new w4.heap.size 2 (Nat.ne_of_lt y76_B1) (.int .i64 a2)).alloc _) ((((f6.new w4.heap.size 0 (Nat.ne_of_lt y76_B2) (.int .i64 a0)).new w4.heap.size 1 (Nat.ne_of_lt y76_B2) (.int .i64 a1)).new w4.heap.size 2 (Nat.ne_of_lt y76_B2) (.int .i64 a2)).alloc _) ((((B3_6.new w4.heap.size 0 (Nat.ne_of_lt y76_B3) (.int .i64 a0)).new w4.heap.size 1 (Nat.ne_of_lt y76_B3) (.int .i64 a1)).new w4.heap.size 2 (Nat.ne_of_lt y76_B3) (.int .i64 a2)).alloc _) ((((B4_6.put 0 (of_decide_eq_true rfl) (.int .i64 a0) [.int .i64 a0, .int .i64 0, .int .i64 0] rfl).put 1 (of_decide_eq_true rfl) (.int .i64 a1) [.int .i64 a0, .int .i64 a1, .int .i64 0] rfl).put 2 (of_decide_eq_true rfl) (.int .i64 a2) [.int .i64 a0, .int .i64 a1, .int .i64 a2] rfl).alloc _) (Arr_at _ _ [.int .i64 b0, .int .i64 b1, .int .i64 b2] _ (by simp)) y76_low y77_low y76_B0 y76_B1 y76_B2 y76_B3 y77_B0 y77_B1 y77_B2 y77_B3 (Nat.ne_of_lt y77_B4)
      · have y78_B0 : w.heap.size < w5.heap.size := B0_5.lies
        have y78_B1 : w.heap.size + 1 < w5.heap.size := B1_5.lies
        have y78_B2 : w1.heap.size < w5.heap.size := f5.lies
        have y78_B3 : w2.heap.size < w5.heap.size := B3_5.lies
        have y78_B4 : w4.heap.size < w5.heap.size := B4_5.lies
        have y78_low : w.heap.size ≤ w5.heap.size := K5.size
        go_simp
        clear hHeld
        refine hK.out _ _ (B1_5.alloc _) (fun hHeld => ?_)
        clear hK K
        refine call_at (i := 7) (by kernel_rfl) rfl (fun K hK => ?_)
        go_simp
        refine (vUnit_any w1.heap.size false p.2.2.2 _ (f5.alloc _)).mono ?_
        rintro e w6 ⟨rfl, f6, k6⟩
        rw [hb] at f6 ⊢
        dsimp only at f6 ⊢
        have K6 : Below w.heap.size w w6 := k6.on (bel_al K5 _) (by omega)
        have B0_6 : Arr w.heap.size [.int .i64 q.1, .int .i64 q.2.1, .int .i64 q.2.2.1, .int .i64 q.2.2.2] w6 := (B0_5.alloc _).kept k6 (Nat.ne_of_lt y46_B0)
        have B1_6 : Arr (w.heap.size + 1) [.int .i64 p.1, .int .i64 p.2.1, .int .i64 p.2.2.1, .int .i64 p.2.2.2.1, .int .i64 p.2.2.2.2.1, .int .i64 p.2.2.2.2.2] w6 := (B1_5.alloc _).kept k6 (Nat.ne_of_lt y46_B1)
        have B3_6 : Arr w2.heap.size [.int .i64 o0, .int .i64 o1, .int .i64 o2, .int .i64 o3] w6 := (B3_5.alloc _).kept k6 (Nat.ne_of_gt y47_B2)
        have B4_6 : Arr w4.heap.size [.int .i64 0, .int .i64 0, .int .i64 0] w6 := (B4_5.alloc _).kept k6 (Nat.ne_of_gt y76_B2)
        have B5_6 : Arr w5.heap.size [.int .i64 0, .int .i64 0, .int .i64 0] w6 := (Arr_at _ _ [.int .i64 0, .int .i64 0, .int .i64 0] _ (by simp)).kept k6 (Nat.ne_of_gt y78_B2)
        have z6 := B5_6.lies
        clear hHeld
        refine hK.out _ _ B1_6 (fun hHeld => ?_)
        clear hK K K5 B0_5 B1_5 f5 B3_5 B4_5 k6
        refine call_at (i := 10) (by kernel_rfl) rfl (fun K hK => ?_)
        have c8_B4_0 : w6.cell? ⟨w4.heap.size, 0, none⟩ = some (.int .i64 0) := B4_6.c 0 (of_decide_eq_true rfl)
        have c8_B4_1 : w6.cell? ⟨w4.heap.size, 1, none⟩ = some (.int .i64 0) := B4_6.c 1 (of_decide_eq_true rfl)
        have c8_B4_2 : w6.cell? ⟨w4.heap.size, 2, none⟩ = some (.int .i64 0) := B4_6.c 2 (of_decide_eq_true rfl)
        have g8_B4_0 := B4_6.f 0 (of_decide_eq_true rfl)
        have g8_B4_1 := B4_6.f 1 (of_decide_eq_true rfl)
        have g8_B4_2 := B4_6.f 2 (of_decide_eq_true rfl)
        go_simp
        clear hHeld
        refine hK.out _ _ (((B1_6.new w4.heap.size 0 (Nat.ne_of_lt y76_B1) (.int .i64 a0)).new w4.heap.size 1 (Nat.ne_of_lt y76_B1) (.int .i64 a1)).new w4.heap.size 2 (Nat.ne_of_lt y76_B1) (.int .i64 a2)) (fun hHeld => ?_)
        clear hK K c8_B4_0 c8_B4_1 c8_B4_2 g8_B4_0 g8_B4_1 g8_B4_2
        refine call_at (i := 11) (by kernel_rfl) rfl (fun K hK => ?_)
        have c9_B5_0 : w6.cell? ⟨w5.heap.size, 0, none⟩ = some (.int .i64 0) := B5_6.c 0 (of_decide_eq_true rfl)
        have c9_B5_1 : w6.cell? ⟨w5.heap.size, 1, none⟩ = some (.int .i64 0) := B5_6.c 1 (of_decide_eq_true rfl)
        have c9_B5_2 : w6.cell? ⟨w5.heap.size, 2, none⟩ = some (.int .i64 0) := B5_6.c 2 (of_decide_eq_true rfl)
        have g9_B5_0 := B5_6.f 0 (of_decide_eq_true rfl)
        have g9_B5_1 := B5_6.f 1 (of_decide_eq_true rfl)
        have g9_B5_2 := B5_6.f 2 (of_decide_eq_true rfl)
        go_simp
        clear hHeld
        refine hK.out _ _ ((((((B1_6.new w4.heap.size 0 (Nat.ne_of_lt y76_B1) (.int .i64 a0)).new w4.heap.size 1 (Nat.ne_of_lt y76_B1) (.int .i64 a1)).new w4.heap.size 2 (Nat.ne_of_lt y76_B1) (.int .i64 a2)).new w5.heap.size 0 (Nat.ne_of_lt y78_B1) (.int .i64 b0)).new w5.heap.size 1 (Nat.ne_of_lt y78_B1) (.int .i64 b1)).new w5.heap.size 2 (Nat.ne_of_lt y78_B1) (.int .i64 b2)) (fun hHeld => ?_)
        clear hK K c9_B5_0 c9_B5_1 c9_B5_2 g9_B5_0 g9_B5_1 g9_B5_2
        refine wpAnyH_done (by kernel_rfl) ?_ _
        clear hHeld
        exact cont1 _ _ _ _ _ _ _ _ _ _ _ _ _ _ _ _ _ _ _ _ _ _ _ _ _ _ _ _ _ _ _ _ w4.heap.size w5.heap.size (bel_new (bel_new (bel_new (bel_new (bel_new (bel_new K6 _ _ y76_low _) _ _ y76_low _) _ _ y76_low _) _ _ y78_low _) _ _ y78_low _) _ _ y78_low _) ((((((B0_6.new w4.heap.size 0 (Nat.ne_of_lt y76_B0) (.int .i64 a0)).new w4.heap.size 1 (Nat.ne_of_lt y76_B0) (.int .i64 a1)).new w4.heap.size 2 (Nat.ne_of_lt y76_B0) (.int .i64 a2)).new w5.heap.size 0 (Nat.ne_of_lt y78_B0) (.int .i64 b0)).new w5.heap.size 1 (Nat.ne_of_lt y78_B0) (.int .i64 b1)).new w5.heap.size 2 (Nat.ne_of_lt y78_B0) (.int .i64 b2)) ((((((B1_6.new w4.heap.size 0 (Nat.ne_of_lt y76_B1) (.int .i64 a0)).new w4.heap.size 1 (Nat.ne_of_lt y76_B1) (.int .i64 a1)).new w4.heap.size 2 (Nat.ne_of_lt y76_B1) (.int .i64 a2)).new w5.heap.size 0 (Nat.ne_of_lt y78_B1) (.int .i64 b0)).new w5.heap.size 1 (Nat.ne_of_lt y78_B1) (.int .i64 b1)).new w5.heap.size 2 (Nat.ne_of_lt y78_B1) (.int .i64 b2)) ((((((f6.new w4.heap.size 0 (Nat.ne_of_lt y76_B2) (.int .i64 a0)).new w4.heap.size 1 (Nat.ne_of_lt y76_B2) (.int .i64 a1)).new w4.heap.size 2 (Nat.ne_of_lt y76_B2) (.int .i64 a2)).new w5.heap.size 0 (Nat.ne_of_lt y78_B2) (.int .i64 b0)).new w5.heap.size 1 (Nat.ne_of_lt y78_B2) (.int .i64 b1)).new w5.heap.size 2 (Nat.ne_of_lt y78_B2) (.int .i64 b2)) ((((((B3_6.new w4.heap.size 0 (Nat.ne_of_lt y76_B3) (.int .i64 a0)).new w4.heap.size 1 (Nat.ne_of_lt y76_B3) (.int .i64 a1)).new w4.heap.size 2 (Nat.ne_of_lt y76_B3) (.int .i64 a2)).new w5.heap.size 0 (Nat.ne_of_lt y78_B3) (.int .i64 b0)).new w5.heap.size 1 (Nat.ne_of_lt y78_B3) (.int .i64 b1)).new w5.heap.size 2 (Nat.ne_of_lt y78_B3) (.int .i64 b2)) ((((((B4_6.put 0 (of_decide_eq_true rfl) (.int .i64 a0) [.int .i64 a0, .int .i64 0, .int .i64 0] rfl).put 1 (of_decide_eq_true rfl) (.int .i64 a1) [.int .i64 a0, .int .i64 a1, .int .i64 0] rfl).put 2 (of_decide_eq_true rfl) (.int .i64 a2) [.int .i64 a0, .int .i64 a1, .int .i64 a2] rfl).new w5.heap.size 0 (Nat.ne_of_lt y78_B4) (.int .i64 b0)).new w5.heap.size 1 (Nat.ne_of_lt y78_B4) (.int .i64 b1)).new w5.heap.size 2 (Nat.ne_of_lt y78_B4) (.int .i64 b2)) ((((((B5_6.new w4.heap.size 0 (Nat.ne_of_gt y78_B4) (.int .i64 a0)).new w4.heap.size 1 (Nat.ne_of_gt y78_B4) (.int .i64 a1)).new w4.heap.size 2 (Nat.ne_of_gt y78_B4) (.int .i64 a2)).put 0 (of_decide_eq_true rfl) (.int .i64 b0) [.int .i64 b0, .int .i64 0, .int .i64 0] rfl).put 1 (of_decide_eq_true rfl) (.int .i64 b1) [.int .i64 b0, .int .i64 b1, .int .i64 0] rfl).put 2 (of_decide_eq_true rfl) (.int .i64 b2) [.int .i64 b0, .int .i64 b1, .int .i64 b2] rfl) y76_low y78_low y76_B0 y76_B1 y76_B2 y76_B3 y78_B0 y78_B1 y78_B2 y78_B3 (Nat.ne_of_lt y78_B4)
    · have y79_B0 : w.heap.size < w4.heap.size + 1 := (Nat.lt_succ_of_lt B0_4.lies)
      have y79_B1 : w.heap.size + 1 < w4.heap.size + 1 := (Nat.lt_succ_of_lt B1_4.lies)
      have y79_B2 : w1.heap.size < w4.heap.size + 1 := (Nat.lt_succ_of_lt B2_4.lies)
      have y79_B3 : w2.heap.size < w4.heap.size + 1 := (Nat.lt_succ_of_lt B3_4.lies)
      have y79_B4 : w4.heap.size < w4.heap.size + 1 := (Nat.lt_succ_self _)
      have y79_low : w.heap.size ≤ w4.heap.size + 1 := (Nat.le_succ_of_le K4.size)
      go_simp
      clear hHeld
      refine hK.out _ _ ((B1_4.alloc _).alloc _).drew (fun hHeld => ?_)
      clear hK K
      refine call_at (i := 3) (by kernel_rfl) rfl (fun K hK => ?_)
      go_simp
      refine (vUnit_any w1.heap.size false (p.1, p.2.1, p.2.2.1) _ ((B2_4.alloc _).alloc _).drew).mono ?_
      rintro e w5 ⟨rfl, f5, k5⟩
      rw [ha] at f5 ⊢
      dsimp only at f5 ⊢
      have K5 : Below w.heap.size w w5 := k5.on (Below.drew (bel_al (bel_al K4 _) _)) (by omega)
      have B0_5 : Arr w.heap.size [.int .i64 q.1, .int .i64 q.2.1, .int .i64 q.2.2.1, .int .i64 q.2.2.2] w5 := ((B0_4.alloc _).alloc _).drew.kept k5 (Nat.ne_of_lt y46_B0)
      have B1_5 : Arr (w.heap.size + 1) [.int .i64 p.1, .int .i64 p.2.1, .int .i64 p.2.2.1, .int .i64 p.2.2.2.1, .int .i64 p.2.2.2.2.1, .int .i64 p.2.2.2.2.2] w5 := ((B1_4.alloc _).alloc _).drew.kept k5 (Nat.ne_of_lt y46_B1)
      have B3_5 : Arr w2.heap.size [.int .i64 o0, .int .i64 o1, .int .i64 o2, .int .i64 o3] w5 := ((B3_4.alloc _).alloc _).drew.kept k5 (Nat.ne_of_gt y47_B2)
      have B4_5 : Arr w4.heap.size [.int .i64 0, .int .i64 0, .int .i64 0] w5 := ((Arr_at _ _ [.int .i64 0, .int .i64 0, .int .i64 0] _ (by simp)).alloc _).drew.kept k5 (Nat.ne_of_gt y76_B2)
      have B5_5 : Arr (w4.heap.size + 1) [.int .i64 0, .int .i64 0, .int .i64 0] w5 := (Arr_at _ _ [.int .i64 0, .int .i64 0, .int .i64 0] _ (by simp)).drew.kept k5 (Nat.ne_of_gt y79_B2)
      have z5 := B5_5.lies
      clear hHeld
      refine hK.out _ _ B1_5 (fun hHeld => ?_)
      clear hK K K4 B0_4 B1_4 B2_4 B3_4 k5
      refine call_at (i := 7) (by kernel_rfl) rfl (fun K hK => ?_)
      go_simp
      refine (vUnit_any w1.heap.size false p.2.2.2 _ f5).mono ?_
      rintro e w6 ⟨rfl, f6, k6⟩
      rw [hb] at f6 ⊢
      dsimp only at f6 ⊢
      have K6 : Below w.heap.size w w6 := k6.on K5 (by omega)
      have B0_6 : Arr w.heap.size [.int .i64 q.1, .int .i64 q.2.1, .int .i64 q.2.2.1, .int .i64 q.2.2.2] w6 := B0_5.kept k6 (Nat.ne_of_lt y46_B0)
      have B1_6 : Arr (w.heap.size + 1) [.int .i64 p.1, .int .i64 p.2.1, .int .i64 p.2.2.1, .int .i64 p.2.2.2.1, .int .i64 p.2.2.2.2.1, .int .i64 p.2.2.2.2.2] w6 := B1_5.kept k6 (Nat.ne_of_lt y46_B1)
      have B3_6 : Arr w2.heap.size [.int .i64 o0, .int .i64 o1, .int .i64 o2, .int .i64 o3] w6 := B3_5.kept k6 (Nat.ne_of_gt y47_B2)
      have B4_6 : Arr w4.heap.size [.int .i64 0, .int .i64 0, .int .i64 0] w6 := B4_5.kept k6 (Nat.ne_of_gt y76_B2)
      have B5_6 : Arr (w4.heap.size + 1) [.int .i64 0, .int .i64 0, .int .i64 0] w6 := B5_5.kept k6 (Nat.ne_of_gt y79_B2)
      have z6 := B5_6.lies
      clear hHeld
      refine hK.out _ _ B1_6 (fun hHeld => ?_)
      clear hK K K5 B0_5 B1_5 f5 B3_5 B4_5 B5_5 k6
      refine call_at (i := 10) (by kernel_rfl) rfl (fun K hK => ?_)
      have c8_B4_0 : w6.cell? ⟨w4.heap.size, 0, none⟩ = some (.int .i64 0) := B4_6.c 0 (of_decide_eq_true rfl)
      have c8_B4_1 : w6.cell? ⟨w4.heap.size, 1, none⟩ = some (.int .i64 0) := B4_6.c 1 (of_decide_eq_true rfl)
      have c8_B4_2 : w6.cell? ⟨w4.heap.size, 2, none⟩ = some (.int .i64 0) := B4_6.c 2 (of_decide_eq_true rfl)
      have g8_B4_0 := B4_6.f 0 (of_decide_eq_true rfl)
      have g8_B4_1 := B4_6.f 1 (of_decide_eq_true rfl)
      have g8_B4_2 := B4_6.f 2 (of_decide_eq_true rfl)
      go_simp
      clear hHeld
      refine hK.out _ _ (((B1_6.new w4.heap.size 0 (Nat.ne_of_lt y76_B1) (.int .i64 a0)).new w4.heap.size 1 (Nat.ne_of_lt y76_B1) (.int .i64 a1)).new w4.heap.size 2 (Nat.ne_of_lt y76_B1) (.int .i64 a2)) (fun hHeld => ?_)
      clear hK K c8_B4_0 c8_B4_1 c8_B4_2 g8_B4_0 g8_B4_1 g8_B4_2
      refine call_at (i := 11) (by kernel_rfl) rfl (fun K hK => ?_)
      have c9_B5_0 : w6.cell? ⟨w4.heap.size + 1, 0, none⟩ = some (.int .i64 0) := B5_6.c 0 (of_decide_eq_true rfl)
      have c9_B5_1 : w6.cell? ⟨w4.heap.size + 1, 1, none⟩ = some (.int .i64 0) := B5_6.c 1 (of_decide_eq_true rfl)
      have c9_B5_2 : w6.cell? ⟨w4.heap.size + 1, 2, none⟩ = some (.int .i64 0) := B5_6.c 2 (of_decide_eq_true rfl)
      have g9_B5_0 := B5_6.f 0 (of_decide_eq_true rfl)
      have g9_B5_1 := B5_6.f 1 (of_decide_eq_true rfl)
      have g9_B5_2 := B5_6.f 2 (of_decide_eq_true rfl)
      go_simp
      clear hHeld
      refine hK.out _ _ ((((((B1_6.new w4.heap.size 0 (Nat.ne_of_lt y76_B1) (.int .i64 a0)).new w4.heap.size 1 (Nat.ne_of_lt y76_B1) (.int .i64 a1)).new w4.heap.size 2 (Nat.ne_of_lt y76_B1) (.int .i64 a2)).new (w4.heap.size + 1) 0 (Nat.ne_of_lt y79_B1) (.int .i64 b0)).new (w4.heap.size + 1) 1 (Nat.ne_of_lt y79_B1) (.int .i64 b1)).new (w4.heap.size + 1) 2 (Nat.ne_of_lt y79_B1) (.int .i64 b2)) (fun hHeld => ?_)
      clear hK K c9_B5_0 c9_B5_1 c9_B5_2 g9_B5_0 g9_B5_1 g9_B5_2
      refine wpAnyH_done (by kernel_rfl) ?_ _
      clear hHeld
      exact cont1 _ _ _ _ _ _ _ _ _ _ _ _ _ _ _ _ _ _ _ _ _ _ _ _ _ _ _ _ _ _ _ _ w4.heap.size (w4.heap.size + 1) (bel_new (bel_new (bel_new (bel_new (bel_new (bel_new K6 _ _ y76_low _) _ _ y76_low _) _ _ y76_low _) _ _ y79_low _) _ _ y79_low _) _ _ y79_low _) ((((((B0_6.new w4.heap.size 0 (Nat.ne_of_lt y76_B0) (.int .i64 a0)).new w4.heap.size 1 (Nat.ne_of_lt y76_B0) (.int .i64 a1)).new w4.heap.size 2 (Nat.ne_of_lt y76_B0) (.int .i64 a2)).new (w4.heap.size + 1) 0 (Nat.ne_of_lt y79_B0) (.int .i64 b0)).new (w4.heap.size + 1) 1 (Nat.ne_of_lt y79_B0) (.int .i64 b1)).new (w4.heap.size + 1) 2 (Nat.ne_of_lt y79_B0) (.int .i64 b2)) ((((((B1_6.new w4.heap.size 0 (Nat.ne_of_lt y76_B1) (.int .i64 a0)).new w4.heap.size 1 (Nat.ne_of_lt y76_B1) (.int .i64 a1)).new w4.heap.size 2 (Nat.ne_of_lt y76_B1) (.int .i64 a2)).new (w4.heap.size + 1) 0 (Nat.ne_of_lt y79_B1) (.int .i64 b0)).new (w4.heap.size + 1) 1 (Nat.ne_of_lt y79_B1) (.int .i64 b1)).new (w4.heap.size + 1) 2 (Nat.ne_of_lt y79_B1) (.int .i64 b2)) ((((((f6.new w4.heap.size 0 (Nat.ne_of_lt y76_B2) (.int .i64 a0)).new w4.heap.size 1 (Nat.ne_of_lt y76_B2) (.int .i64 a1)).new w4.heap.size 2 (Nat.ne_of_lt y76_B2) (.int .i64 a2)).new (w4.heap.size + 1) 0 (Nat.ne_of_lt y79_B2) (.int .i64 b0)).new (w4.heap.size + 1) 1 (Nat.ne_of_lt y79_B2) (.int .i64 b1)).new (w4.heap.size + 1) 2 (Nat.ne_of_lt y79_B2) (.int .i64 b2)) ((((((B3_6.new w4.heap.size 0 (Nat.ne_of_lt y76_B3) (.int .i64 a0)).new w4.heap.size 1 (Nat.ne_of_lt y76_B3) (.int .i64 a1)).new w4.heap.size 2 (Nat.ne_of_lt y76_B3) (.int .i64 a2)).new (w4.heap.size + 1) 0 (Nat.ne_of_lt y79_B3) (.int .i64 b0)).new (w4.heap.size + 1) 1 (Nat.ne_of_lt y79_B3) (.int .i64 b1)).new (w4.heap.size + 1) 2 (Nat.ne_of_lt y79_B3) (.int .i64 b2)) ((((((B4_6.put 0 (of_decide_eq_true rfl) (.int .i64 a0) [.int .i64 a0, .int .i64 0, .int .i64 0] rfl).put 1 (of_decide_eq_true rfl) (.int .i64 a1) [.int .i64 a0, .int .i64 a1, .int .i64 0] rfl).put 2 (of_decide_eq_true rfl) (.int .i64 a2) [.int .i64 a0, .int .i64 a1, .int .i64 a2] rfl).new (w4.heap.size + 1) 0 (Nat.ne_of_lt y79_B4) (.int .i64 b0)).new (w4.heap.size + 1) 1 (Nat.ne_of_lt y79_B4) (.int .i64 b1)).new (w4.heap.size + 1) 2 (Nat.ne_of_lt y79_B4) (.int .i64 b2)) ((((((B5_6.new w4.heap.size 0 (Nat.ne_of_gt y79_B4) (.int .i64 a0)).new w4.heap.size 1 (Nat.ne_of_gt y79_B4) (.int .i64 a1)).new w4.heap.size 2 (Nat.ne_of_gt y79_B4) (.int .i64 a2)).put 0 (of_decide_eq_true rfl) (.int .i64 b0) [.int .i64 b0, .int .i64 0, .int .i64 0] rfl).put 1 (of_decide_eq_true rfl) (.int .i64 b1) [.int .i64 b0, .int .i64 b1, .int .i64 0] rfl).put 2 (of_decide_eq_true rfl) (.int .i64 b2) [.int .i64 b0, .int .i64 b1, .int .i64 b2] rfl) y76_low y79_low y76_B0 y76_B1 y76_B2 y76_B3 y79_B0 y79_B1 y79_B2 y79_B3 (Nat.ne_of_lt y79_B4)
  · have y80_B0 : w.heap.size < w4.heap.size := B0_4.lies
    have y80_B1 : w.heap.size + 1 < w4.heap.size := B1_4.lies
    have y80_B2 : w1.heap.size < w4.heap.size := B2_4.lies
    have y80_B3 : w2.heap.size < w4.heap.size := B3_4.lies
    have y80_low : w.heap.size ≤ w4.heap.size := K4.size
    go_simp
    clear hHeld
    refine hK.out _ _ (B1_4.alloc _).drew (fun hHeld => ?_)
    clear hK K
    refine call_at2 (i0 := 3) (i1 := 8) (by kernel_rfl) rfl rfl (fun K hK => ?_) (fun K hK => ?_)
    · go_simp
      refine (vUnit_any w1.heap.size false (p.1, p.2.1, p.2.2.1) _ (B2_4.alloc _).drew).mono ?_
      rintro e w5 ⟨rfl, f5, k5⟩
      rw [ha] at f5 ⊢
      dsimp only at f5 ⊢
      have K5 : Below w.heap.size w w5 := k5.on (Below.drew (bel_al K4 _)) (by omega)
      have B0_5 : Arr w.heap.size [.int .i64 q.1, .int .i64 q.2.1, .int .i64 q.2.2.1, .int .i64 q.2.2.2] w5 := (B0_4.alloc _).drew.kept k5 (Nat.ne_of_lt y46_B0)
      have B1_5 : Arr (w.heap.size + 1) [.int .i64 p.1, .int .i64 p.2.1, .int .i64 p.2.2.1, .int .i64 p.2.2.2.1, .int .i64 p.2.2.2.2.1, .int .i64 p.2.2.2.2.2] w5 := (B1_4.alloc _).drew.kept k5 (Nat.ne_of_lt y46_B1)
      have B3_5 : Arr w2.heap.size [.int .i64 o0, .int .i64 o1, .int .i64 o2, .int .i64 o3] w5 := (B3_4.alloc _).drew.kept k5 (Nat.ne_of_gt y47_B2)
      have B4_5 : Arr w4.heap.size [.int .i64 0, .int .i64 0, .int .i64 0] w5 := (Arr_at _ _ [.int .i64 0, .int .i64 0, .int .i64 0] _ (by simp)).drew.kept k5 (Nat.ne_of_gt y80_B2)
      have z5 := B4_5.lies
      clear hHeld
      refine hK.out _ _ B1_5 (fun hHeld => ?_)
      clear hK K K4 B0_4 B1_4 B2_4 B3_4 k5
      refine call_at2 (i0 := 7) (i1 := 8) (by kernel_rfl) rfl rfl (fun K hK => ?_) (fun K hK => ?_)
      · go_simp
        refine (vUnit_any w1.heap.size false p.2.2.2 _ f5).mono ?_
        rintro e w6 ⟨rfl, f6, k6⟩
        rw [hb] at f6 ⊢
        dsimp only at f6 ⊢
        have K6 : Below w.heap.size w w6 := k6.on K5 (by omega)
        have B0_6 : Arr w.heap.size [.int .i64 q.1, .int .i64 q.2.1, .int .i64 q.2.2.1, .int .i64 q.2.2.2] w6 := B0_5.kept k6 (Nat.ne_of_lt y46_B0)
        have B1_6 : Arr (w.heap.size + 1) [.int .i64 p.1, .int .i64 p.2.1, .int .i64 p.2.2.1, .int .i64 p.2.2.2.1, .int .i64 p.2.2.2.2.1, .int .i64 p.2.2.2.2.2] w6 := B1_5.kept k6 (Nat.ne_of_lt y46_B1)
        have B3_6 : Arr w2.heap.size [.int .i64 o0, .int .i64 o1, .int .i64 o2, .int .i64 o3] w6 := B3_5.kept k6 (Nat.ne_of_gt y47_B2)
        have B4_6 : Arr w4.heap.size [.int .i64 0, .int .i64 0, .int .i64 0] w6 := B4_5.kept k6 (Nat.ne_of_gt y80_B2)
        have z6 := B4_6.lies
        clear hHeld
        refine hK.out _ _ B1_6 (fun hHeld => ?_)
        clear hK K K5 B0_5 B1_5 f5 B3_5 B4_5 k6
        refine call_at (i := 8) (by kernel_rfl) rfl (fun K hK => ?_)
        have y81_B0 : w.heap.size < w6.heap.size := B0_6.lies
        have y81_B1 : w.heap.size + 1 < w6.heap.size := B1_6.lies
        have y81_B2 : w1.heap.size < w6.heap.size := f6.lies
        have y81_B3 : w2.heap.size < w6.heap.size := B3_6.lies
        have y81_B4 : w4.heap.size < w6.heap.size := B4_6.lies
        have y81_low : w.heap.size ≤ w6.heap.size := K6.size
        go_simp
        clear hHeld
        refine hK.out _ _ (B1_6.alloc _) (fun hHeld => ?_)
        clear hK K
        refine call_at (i := 10) (by kernel_rfl) rfl (fun K hK => ?_)
        go_simp
        clear hHeld
        refine hK.out _ _ (B1_6.alloc _) (fun hHeld => ?_)
        clear hK K
        refine call_at (i := 11) (by kernel_rfl) rfl (fun K hK => ?_)
        have c9_B4_0 : w6.cell? ⟨w4.heap.size, 0, none⟩ = some (.int .i64 0) := B4_6.c 0 (of_decide_eq_true rfl)
        have c9_B4_1 : w6.cell? ⟨w4.heap.size, 1, none⟩ = some (.int .i64 0) := B4_6.c 1 (of_decide_eq_true rfl)
        have c9_B4_2 : w6.cell? ⟨w4.heap.size, 2, none⟩ = some (.int .i64 0) := B4_6.c 2 (of_decide_eq_true rfl)
        have g9_B4_0 := B4_6.f 0 (of_decide_eq_true rfl)
        have g9_B4_1 := B4_6.f 1 (of_decide_eq_true rfl)
        have g9_B4_2 := B4_6.f 2 (of_decide_eq_true rfl)
        have l9_B4 := B4_6.lies
        go_simp
        clear hHeld
        refine hK.out _ _ ((((B1_6.new w4.heap.size 0 (Nat.ne_of_lt y80_B1) (.int .i64 b0)).new w4.heap.size 1 (Nat.ne_of_lt y80_B1) (.int .i64 b1)).new w4.heap.size 2 (Nat.ne_of_lt y80_B1) (.int .i64 b2)).alloc _) (fun hHeld => ?_)
        clear hK K c9_B4_0 c9_B4_1 c9_B4_2 g9_B4_0 g9_B4_1 g9_B4_2 l9_B4
        refine wpAnyH_done (by kernel_rfl) ?_ _
        clear hHeld
        exact cont1 _ _ _ _ _ _ _ _ _ _ _ _ _ _ _ _ _ _ _ _ _ _ _ _ _ _ _ _ _ _ _ _ w6.heap.size w4.heap.size (bel_al (bel_new (bel_new (bel_new K6 _ _ y80_low _) _ _ y80_low _) _ _ y80_low _) _) ((((B0_6.new w4.heap.size 0 (Nat.ne_of_lt y80_B0) (.int .i64 b0)).new w4.heap.size 1 (Nat.ne_of_lt y80_B0) (.int .i64 b1)).new w4.heap.size 2 (Nat.ne_of_lt y80_B0) (.int .i64 b2)).alloc _) ((((B1_6.new w4.heap.size 0 (Nat.ne_of_lt y80_B1) (.int .i64 b0)).new w4.heap.size 1 (Nat.ne_of_lt y80_B1) (.int .i64 b1)).new w4.heap.size 2 (Nat.ne_of_lt y80_B1) (.int .i64 b2)).alloc _) ((((f6.new w4.heap.size 0 (Nat.ne_of_lt y80_B2) (.int .i64 b0)).new w4.heap.size 1 (Nat.ne_of_lt y80_B2) (.int .i64 b1)).new w4.heap.size 2 (Nat.ne_of_lt y80_B2) (.int .i64 b2)).alloc _) ((((B3_6.new w4.heap.size 0 (Nat.ne_of_lt y80_B3) (.int .i64 b0)).new w4.heap.size 1 (Nat.ne_of_lt y80_B3) (.int .i64 b1)).new w4.heap.size 2 (Nat.ne_of_lt y80_B3) (.int .i64 b2)).alloc _) (Arr_at _ _ [.int .i64 a0, .int .i64 a1, .int .i64 a2] _ (by simp)) ((((B4_6.put 0 (of_decide_eq_true rfl) (.int .i64 b0) [.int .i64 b0, .int .i64 0, .int .i64 0] rfl).put 1 (of_decide_eq_true rfl) (.int .i64 b1) [.int .i64 b0, .int .i64 b1, .int .i64 0] rfl).put 2 (of_decide_eq_true rfl) (.int .i64 b2) [.int .i64 b0, .int .i64 b1, .int .i64 b2] rfl).alloc _) y81_low y80_low y81_B0 y81_B1 y81_B2 y81_B3 y80_B0 y80_B1 y80_B2 y80_B3 (Nat.ne_of_gt y81_B4)
      · have y82_B0 : w.heap.size < w5.heap.size := B0_5.lies
        have y82_B1 : w.heap.size + 1 < w5.heap.size := B1_5.lies
        have y82_B2 : w1.heap.size < w5.heap.size := f5.lies
        have y82_B3 : w2.heap.size < w5.heap.size := B3_5.lies
        have y82_B4 : w4.heap.size < w5.heap.size := B4_5.lies
        have y82_low : w.heap.size ≤ w5.heap.size := K5.size
        go_simp
        clear hHeld
        refine hK.out _ _ (B1_5.alloc _) (fun hHeld => ?_)
        clear hK K
        refine call_at (i := 7) (by kernel_rfl) rfl (fun K hK => ?_)
        go_simp
        refine (vUnit_any w1.heap.size false p.2.2.2 _ (f5.alloc _)).mono ?_
        rintro e w6 ⟨rfl, f6, k6⟩
        rw [hb] at f6 ⊢
        dsimp only at f6 ⊢
        have K6 : Below w.heap.size w w6 := k6.on (bel_al K5 _) (by omega)
        have B0_6 : Arr w.heap.size [.int .i64 q.1, .int .i64 q.2.1, .int .i64 q.2.2.1, .int .i64 q.2.2.2] w6 := (B0_5.alloc _).kept k6 (Nat.ne_of_lt y46_B0)
        have B1_6 : Arr (w.heap.size + 1) [.int .i64 p.1, .int .i64 p.2.1, .int .i64 p.2.2.1, .int .i64 p.2.2.2.1, .int .i64 p.2.2.2.2.1, .int .i64 p.2.2.2.2.2] w6 := (B1_5.alloc _).kept k6 (Nat.ne_of_lt y46_B1)
        have B3_6 : Arr w2.heap.size [.int .i64 o0, .int .i64 o1, .int .i64 o2, .int .i64 o3] w6 := (B3_5.alloc _).kept k6 (Nat.ne_of_gt y47_B2)
        have B4_6 : Arr w4.heap.size [.int .i64 0, .int .i64 0, .int .i64 0] w6 := (B4_5.alloc _).kept k6 (Nat.ne_of_gt y80_B2)
        have B5_6 : Arr w5.heap.size [.int .i64 0, .int .i64 0, .int .i64 0] w6 := (Arr_at _ _ [.int .i64 0, .int .i64 0, .int .i64 0] _ (by simp)).kept k6 (Nat.ne_of_gt y82_B2)
        have z6 := B5_6.lies
        clear hHeld
        refine hK.out _ _ B1_6 (fun hHeld => ?_)
        clear hK K K5 B0_5 B1_5 f5 B3_5 B4_5 k6
        refine call_at (i := 10) (by kernel_rfl) rfl (fun K hK => ?_)
        have c8_B5_0 : w6.cell? ⟨w5.heap.size, 0, none⟩ = some (.int .i64 0) := B5_6.c 0 (of_decide_eq_true rfl)
        have c8_B5_1 : w6.cell? ⟨w5.heap.size, 1, none⟩ = some (.int .i64 0) := B5_6.c 1 (of_decide_eq_true rfl)
        have c8_B5_2 : w6.cell? ⟨w5.heap.size, 2, none⟩ = some (.int .i64 0) := B5_6.c 2 (of_decide_eq_true rfl)
        have g8_B5_0 := B5_6.f 0 (of_decide_eq_true rfl)
        have g8_B5_1 := B5_6.f 1 (of_decide_eq_true rfl)
        have g8_B5_2 := B5_6.f 2 (of_decide_eq_true rfl)
        go_simp
        clear hHeld
        refine hK.out _ _ (((B1_6.new w5.heap.size 0 (Nat.ne_of_lt y82_B1) (.int .i64 a0)).new w5.heap.size 1 (Nat.ne_of_lt y82_B1) (.int .i64 a1)).new w5.heap.size 2 (Nat.ne_of_lt y82_B1) (.int .i64 a2)) (fun hHeld => ?_)
        clear hK K c8_B5_0 c8_B5_1 c8_B5_2 g8_B5_0 g8_B5_1 g8_B5_2
        refine call_at (i := 11) (by kernel_rfl) rfl (fun K hK => ?_)
        have c9_B4_0 : w6.cell? ⟨w4.heap.size, 0, none⟩ = some (.int .i64 0) := B4_6.c 0 (of_decide_eq_true rfl)
        have c9_B4_1 : w6.cell? ⟨w4.heap.size, 1, none⟩ = some (.int .i64 0) := B4_6.c 1 (of_decide_eq_true rfl)
        have c9_B4_2 : w6.cell? ⟨w4.heap.size, 2, none⟩ = some (.int .i64 0) := B4_6.c 2 (of_decide_eq_true rfl)
        have g9_B4_0 := B4_6.f 0 (of_decide_eq_true rfl)
        have g9_B4_1 := B4_6.f 1 (of_decide_eq_true rfl)
        have g9_B4_2 := B4_6.f 2 (of_decide_eq_true rfl)
        go_simp
        clear hHeld
        refine hK.out _ _ ((((((B1_6.new w5.heap.size 0 (Nat.ne_of_lt y82_B1) (.int .i64 a0)).new w5.heap.size 1 (Nat.ne_of_lt y82_B1) (.int .i64 a1)).new w5.heap.size 2 (Nat.ne_of_lt y82_B1) (.int .i64 a2)).new w4.heap.size 0 (Nat.ne_of_lt y80_B1) (.int .i64 b0)).new w4.heap.size 1 (Nat.ne_of_lt y80_B1) (.int .i64 b1)).new w4.heap.size 2 (Nat.ne_of_lt y80_B1) (.int .i64 b2)) (fun hHeld => ?_)
        clear hK K c9_B4_0 c9_B4_1 c9_B4_2 g9_B4_0 g9_B4_1 g9_B4_2
        refine wpAnyH_done (by kernel_rfl) ?_ _
        clear hHeld
        exact cont1 _ _ _ _ _ _ _ _ _ _ _ _ _ _ _ _ _ _ _ _ _ _ _ _ _ _ _ _ _ _ _ _ w5.heap.size w4.heap.size (bel_new (bel_new (bel_new (bel_new (bel_new (bel_new K6 _ _ y82_low _) _ _ y82_low _) _ _ y82_low _) _ _ y80_low _) _ _ y80_low _) _ _ y80_low _) ((((((B0_6.new w5.heap.size 0 (Nat.ne_of_lt y82_B0) (.int .i64 a0)).new w5.heap.size 1 (Nat.ne_of_lt y82_B0) (.int .i64 a1)).new w5.heap.size 2 (Nat.ne_of_lt y82_B0) (.int .i64 a2)).new w4.heap.size 0 (Nat.ne_of_lt y80_B0) (.int .i64 b0)).new w4.heap.size 1 (Nat.ne_of_lt y80_B0) (.int .i64 b1)).new w4.heap.size 2 (Nat.ne_of_lt y80_B0) (.int .i64 b2)) ((((((B1_6.new w5.heap.size 0 (Nat.ne_of_lt y82_B1) (.int .i64 a0)).new w5.heap.size 1 (Nat.ne_of_lt y82_B1) (.int .i64 a1)).new w5.heap.size 2 (Nat.ne_of_lt y82_B1) (.int .i64 a2)).new w4.heap.size 0 (Nat.ne_of_lt y80_B1) (.int .i64 b0)).new w4.heap.size 1 (Nat.ne_of_lt y80_B1) (.int .i64 b1)).new w4.heap.size 2 (Nat.ne_of_lt y80_B1) (.int .i64 b2)) ((((((f6.new w5.heap.size 0 (Nat.ne_of_lt y82_B2) (.int .i64 a0)).new w5.heap.size 1 (Nat.ne_of_lt y82_B2) (.int .i64 a1)).new w5.heap.size 2 (Nat.ne_of_lt y82_B2) (.int .i64 a2)).new w4.heap.size 0 (Nat.ne_of_lt y80_B2) (.int .i64 b0)).new w4.heap.size 1 (Nat.ne_of_lt y80_B2) (.int .i64 b1)).new w4.heap.size 2 (Nat.ne_of_lt y80_B2) (.int .i64 b2)) ((((((B3_6.new w5.heap.size 0 (Nat.ne_of_lt y82_B3) (.int .i64 a0)).new w5.heap.size 1 (Nat.ne_of_lt y82_B3) (.int .i64 a1)).new w5.heap.size 2 (Nat.ne_of_lt y82_B3) (.int .i64 a2)).new w4.heap.size 0 (Nat.ne_of_lt y80_B3) (.int .i64 b0)).new w4.heap.size 1 (Nat.ne_of_lt y80_B3) (.int .i64 b1)).new w4.heap.size 2 (Nat.ne_of_lt y80_B3) (.int .i64 b2)) ((((((B5_6.put 0 (of_decide_eq_true rfl) (.int .i64 a0) [.int .i64 a0, .int .i64 0, .int .i64 0] rfl).put 1 (of_decide_eq_true rfl) (.int .i64 a1) [.int .i64 a0, .int .i64 a1, .int .i64 0] rfl).put 2 (of_decide_eq_true rfl) (.int .i64 a2) [.int .i64 a0, .int .i64 a1, .int .i64 a2] rfl).new w4.heap.size 0 (Nat.ne_of_gt y82_B4) (.int .i64 b0)).new w4.heap.size 1 (Nat.ne_of_gt y82_B4) (.int .i64 b1)).new w4.heap.size 2 (Nat.ne_of_gt y82_B4) (.int .i64 b2)) ((((((B4_6.new w5.heap.size 0 (Nat.ne_of_lt y82_B4) (.int .i64 a0)).new w5.heap.size 1 (Nat.ne_of_lt y82_B4) (.int .i64 a1)).new w5.heap.size 2 (Nat.ne_of_lt y82_B4) (.int .i64 a2)).put 0 (of_decide_eq_true rfl) (.int .i64 b0) [.int .i64 b0, .int .i64 0, .int .i64 0] rfl).put 1 (of_decide_eq_true rfl) (.int .i64 b1) [.int .i64 b0, .int .i64 b1, .int .i64 0] rfl).put 2 (of_decide_eq_true rfl) (.int .i64 b2) [.int .i64 b0, .int .i64 b1, .int .i64 b2] rfl) y82_low y80_low y82_B0 y82_B1 y82_B2 y82_B3 y80_B0 y80_B1 y80_B2 y80_B3 (Nat.ne_of_gt y82_B4)
    · have y83_B0 : w.heap.size < w4.heap.size + 1 := (Nat.lt_succ_of_lt B0_4.lies)
      have y83_B1 : w.heap.size + 1 < w4.heap.size + 1 := (Nat.lt_succ_of_lt B1_4.lies)
      have y83_B2 : w1.heap.size < w4.heap.size + 1 := (Nat.lt_succ_of_lt B2_4.lies)
      have y83_B3 : w2.heap.size < w4.heap.size + 1 := (Nat.lt_succ_of_lt B3_4.lies)
      have y83_B4 : w4.heap.size < w4.heap.size + 1 := (Nat.lt_succ_self _)
      have y83_low : w.heap.size ≤ w4.heap.size + 1 := (Nat.le_succ_of_le K4.size)
      go_simp
      clear hHeld
      refine hK.out _ _ ((B1_4.alloc _).alloc _).drew (fun hHeld => ?_)
      clear hK K
      refine call_at (i := 3) (by kernel_rfl) rfl (fun K hK => ?_)
      go_simp
      refine (vUnit_any w1.heap.size false (p.1, p.2.1, p.2.2.1) _ ((B2_4.alloc _).alloc _).drew).mono ?_
      rintro e w5 ⟨rfl, f5, k5⟩
      rw [ha] at f5 ⊢
      dsimp only at f5 ⊢
      have K5 : Below w.heap.size w w5 := k5.on (Below.drew (bel_al (bel_al K4 _) _)) (by omega)
      have B0_5 : Arr w.heap.size [.int .i64 q.1, .int .i64 q.2.1, .int .i64 q.2.2.1, .int .i64 q.2.2.2] w5 := ((B0_4.alloc _).alloc _).drew.kept k5 (Nat.ne_of_lt y46_B0)
      have B1_5 : Arr (w.heap.size + 1) [.int .i64 p.1, .int .i64 p.2.1, .int .i64 p.2.2.1, .int .i64 p.2.2.2.1, .int .i64 p.2.2.2.2.1, .int .i64 p.2.2.2.2.2] w5 := ((B1_4.alloc _).alloc _).drew.kept k5 (Nat.ne_of_lt y46_B1)
      have B3_5 : Arr w2.heap.size [.int .i64 o0, .int .i64 o1, .int .i64 o2, .int .i64 o3] w5 := ((B3_4.alloc _).alloc _).drew.kept k5 (Nat.ne_of_gt y47_B2)
      have B4_5 : Arr w4.heap.size [.int .i64 0, .int .i64 0, .int .i64 0] w5 := ((Arr_at _ _ [.int .i64 0, .int .i64 0, .int .i64 0] _ (by simp)).alloc _).drew.kept k5 (Nat.ne_of_gt y80_B2)
      have B5_5 : Arr (w4.heap.size + 1) [.int .i64 0, .int .i64 0, .int .i64 0] w5 := (Arr_at _ _ [.int .i64 0, .int .i64 0, .int .i64 0] _ (by simp)).drew.kept k5 (Nat.ne_of_gt y83_B2)
      have z5 := B5_5.lies
      clear hHeld
      refine hK.out _ _ B1_5 (fun hHeld => ?_)
      clear hK K K4 B0_4 B1_4 B2_4 B3_4 k5
      refine call_at (i := 7) (by kernel_rfl) rfl (fun K hK => ?_)
      go_simp
      refine (vUnit_any w1.heap.size false p.2.2.2 _ f5).mono ?_
      rintro e w6 ⟨rfl, f6, k6⟩
      rw [hb] at f6 ⊢
      dsimp only at f6 ⊢
      have K6 : Below w.heap.size w w6 := k6.on K5 (by omega)
      have B0_6 : Arr w.heap.size [.int .i64 q.1, .int .i64 q.2.1, .int .i64 q.2.2.1, .int .i64 q.2.2.2] w6 := B0_5.kept k6 (Nat.ne_of_lt y46_B0)
      have B1_6 : Arr (w.heap.size + 1) [.int .i64 p.1, .int .i64 p.2.1, .int .i64 p.2.2.1, .int .i64 p.2.2.2.1, .int .i64 p.2.2.2.2.1, .int .i64 p.2.2.2.2.2] w6 := B1_5.kept k6 (Nat.ne_of_lt y46_B1)
      have B3_6 : Arr w2.heap.size [.int .i64 o0, .int .i64 o1, .int .i64 o2, .int .i64 o3] w6 := B3_5.kept k6 (Nat.ne_of_gt y47_B2)
      have B4_6 : Arr w4.heap.size [.int .i64 0, .int .i64 0, .int .i64 0] w6 := B4_5.kept k6 (Nat.ne_of_gt y80_B2)
      have B5_6 : Arr (w4.heap.size + 1) [.int .i64 0, .int .i64 0, .int .i64 0] w6 := B5_5.kept k6 (Nat.ne_of_gt y83_B2)
      have z6 := B5_6.lies
      clear hHeld
      refine hK.out _ _ B1_6 (fun hHeld => ?_)
      clear hK K K5 B0_5 B1_5 f5 B3_5 B4_5 B5_5 k6
      refine call_at (i := 10) (by kernel_rfl) rfl (fun K hK => ?_)
      have c8_B5_0 : w6.cell? ⟨w4.heap.size + 1, 0, none⟩ = some (.int .i64 0) := B5_6.c 0 (of_decide_eq_true rfl)
      have c8_B5_1 : w6.cell? ⟨w4.heap.size + 1, 1, none⟩ = some (.int .i64 0) := B5_6.c 1 (of_decide_eq_true rfl)
      have c8_B5_2 : w6.cell? ⟨w4.heap.size + 1, 2, none⟩ = some (.int .i64 0) := B5_6.c 2 (of_decide_eq_true rfl)
      have g8_B5_0 := B5_6.f 0 (of_decide_eq_true rfl)
      have g8_B5_1 := B5_6.f 1 (of_decide_eq_true rfl)
      have g8_B5_2 := B5_6.f 2 (of_decide_eq_true rfl)
      go_simp
      clear hHeld
      refine hK.out _ _ (((B1_6.new (w4.heap.size + 1) 0 (Nat.ne_of_lt y83_B1) (.int .i64 a0)).new (w4.heap.size + 1) 1 (Nat.ne_of_lt y83_B1) (.int .i64 a1)).new (w4.heap.size + 1) 2 (Nat.ne_of_lt y83_B1) (.int .i64 a2)) (fun hHeld => ?_)
      clear hK K c8_B5_0 c8_B5_1 c8_B5_2 g8_B5_0 g8_B5_1 g8_B5_2
      refine call_at (i := 11) (by kernel_rfl) rfl (fun K hK => ?_)
      have c9_B4_0 : w6.cell? ⟨w4.heap.size, 0, none⟩ = some (.int .i64 0) := B4_6.c 0 (of_decide_eq_true rfl)
      have c9_B4_1 : w6.cell? ⟨w4.heap.size, 1, none⟩ = some (.int .i64 0) := B4_6.c 1 (of_decide_eq_true rfl)
      have c9_B4_2 : w6.cell? ⟨w4.heap.size, 2, none⟩ = some (.int .i64 0) := B4_6.c 2 (of_decide_eq_true rfl)
      have g9_B4_0 := B4_6.f 0 (of_decide_eq_true rfl)
      have g9_B4_1 := B4_6.f 1 (of_decide_eq_true rfl)
      have g9_B4_2 := B4_6.f 2 (of_decide_eq_true rfl)
      go_simp
      clear hHeld
      refine hK.out _ _ ((((((B1_6.new (w4.heap.size + 1) 0 (Nat.ne_of_lt y83_B1) (.int .i64 a0)).new (w4.heap.size + 1) 1 (Nat.ne_of_lt y83_B1) (.int .i64 a1)).new (w4.heap.size + 1) 2 (Nat.ne_of_lt y83_B1) (.int .i64 a2)).new w4.heap.size 0 (Nat.ne_of_lt y80_B1) (.int .i64 b0)).new w4.heap.size 1 (Nat.ne_of_lt y80_B1) (.int .i64 b1)).new w4.heap.size 2 (Nat.ne_of_lt y80_B1) (.int .i64 b2)) (fun hHeld => ?_)
      clear hK K c9_B4_0 c9_B4_1 c9_B4_2 g9_B4_0 g9_B4_1 g9_B4_2
      refine wpAnyH_done (by kernel_rfl) ?_ _
      clear hHeld
      exact cont1 _ _ _ _ _ _ _ _ _ _ _ _ _ _ _ _ _ _ _ _ _ _ _ _ _ _ _ _ _ _ _ _ (w4.heap.size + 1) w4.heap.size (bel_new (bel_new (bel_new (bel_new (bel_new (bel_new K6 _ _ y83_low _) _ _ y83_low _) _ _ y83_low _) _ _ y80_low _) _ _ y80_low _) _ _ y80_low _) ((((((B0_6.new (w4.heap.size + 1) 0 (Nat.ne_of_lt y83_B0) (.int .i64 a0)).new (w4.heap.size + 1) 1 (Nat.ne_of_lt y83_B0) (.int .i64 a1)).new (w4.heap.size + 1) 2 (Nat.ne_of_lt y83_B0) (.int .i64 a2)).new w4.heap.size 0 (Nat.ne_of_lt y80_B0) (.int .i64 b0)).new w4.heap.size 1 (Nat.ne_of_lt y80_B0) (.int .i64 b1)).new w4.heap.size 2 (Nat.ne_of_lt y80_B0) (.int .i64 b2)) ((((((B1_6.new (w4.heap.size + 1) 0 (Nat.ne_of_lt y83_B1) (.int .i64 a0)).new (w4.heap.size + 1) 1 (Nat.ne_of_lt y83_B1) (.int .i64 a1)).new (w4.heap.size + 1) 2 (Nat.ne_of_lt y83_B1) (.int .i64 a2)).new w4.heap.size 0 (Nat.ne_of_lt y80_B1) (.int .i64 b0)).new w4.heap.size 1 (Nat.ne_of_lt y80_B1) (.int .i64 b1)).new w4.heap.size 2 (Nat.ne_of_lt y80_B1) (.int .i64 b2)) ((((((f6.new (w4.heap.size + 1) 0 (Nat.ne_of_lt y83_B2) (.int .i64 a0)).new (w4.heap.size + 1) 1 (Nat.ne_of_lt y83_B2) (.int .i64 a1)).new (w4.heap.size + 1) 2 (Nat.ne_of_lt y83_B2) (.int .i64 a2)).new w4.heap.size 0 (Nat.ne_of_lt y80_B2) (.int .i64 b0)).new w4.heap.size 1 (Nat.ne_of_lt y80_B2) (.int .i64 b1)).new w4.heap.size 2 (Nat.ne_of_lt y80_B2) (.int .i64 b2)) ((((((B3_6.new (w4.heap.size + 1) 0 (Nat.ne_of_lt y83_B3) (.int .i64 a0)).new (w4.heap.size + 1) 1 (Nat.ne_of_lt y83_B3) (.int .i64 a1)).new (w4.heap.size + 1) 2 (Nat.ne_of_lt y83_B3) (.int .i64 a2)).new w4.heap.size 0 (Nat.ne_of_lt y80_B3) (.int .i64 b0)).new w4.heap.size 1 (Nat.ne_of_lt y80_B3) (.int .i64 b1)).new w4.heap.size 2 (Nat.ne_of_lt y80_B3) (.int .i64 b2)) ((((((B5_6.put 0 (of_decide_eq_true rfl) (.int .i64 a0) [.int .i64 a0, .int .i64 0, .int .i64 0] rfl).put 1 (of_decide_eq_true rfl) (.int .i64 a1) [.int .i64 a0, .int .i64 a1, .int .i64 0] rfl).put 2 (of_decide_eq_true rfl) (.int .i64 a2) [.int .i64 a0, .int .i64 a1, .int .i64 a2] rfl).new w4.heap.size 0 (Nat.ne_of_gt y83_B4) (.int .i64 b0)).new w4.heap.size 1 (Nat.ne_of_gt y83_B4) (.int .i64 b1)).new w4.heap.size 2 (Nat.ne_of_gt y83_B4) (.int .i64 b2)) ((((((B4_6.new (w4.heap.size + 1) 0 (Nat.ne_of_lt y83_B4) (.int .i64 a0)).new (w4.heap.size + 1) 1 (Nat.ne_of_lt y83_B4) (.int .i64 a1)).new (w4.heap.size + 1) 2 (Nat.ne_of_lt y83_B4) (.int .i64 a2)).put 0 (of_decide_eq_true rfl) (.int .i64 b0) [.int .i64 b0, .int .i64 0, .int .i64 0] rfl).put 1 (of_decide_eq_true rfl) (.int .i64 b1) [.int .i64 b0, .int .i64 b1, .int .i64 0] rfl).put 2 (of_decide_eq_true rfl) (.int .i64 b2) [.int .i64 b0, .int .i64 b1, .int .i64 b2] rfl) y83_low y80_low y83_B0 y83_B1 y83_B2 y83_B3 y80_B0 y80_B1 y80_B2 y80_B3 (Nat.ne_of_gt y83_B4)
end Go.Proofs.Ytkeijfbpkdelpaa
