/-
  The walk of the law QuatThere, for the seat Yteooceapkkdcpab. (Made by mklaw04.py.)
-/
import Derived.Test.YteooceapkkdcpabQAwake
import Derived.Test.YteooceapkkdcpabQEqv
import Derived.Test.YteooceapkkdcpabVEqv
import Derived.Test.YteooceapkkdcpabQHelp
import Derived.Test.YteooceapkkdcpabQMat
import Derived.Test.YteooceapkkdcpabQFrom
import Derived.Test.YteooceapkkdcpabXMul
import Derived.Test.YteooceapkkdcpabXBack
import Derived.Test.YteooceapkkdcpabQRodM
import Derived.Handy
import Derived.Deep.RegionHeld3
namespace Go.Proofs.Yteooceapkkdcpab
open Go.RowKit

theorem yMul_any (b : Nat) (bad : Bool) (p : V4) (q : V4) (w : World) (hw : Fl b bad w) :
    Calls Try.prog 12 #[.pointer (some ⟨b, 0, none⟩), .agg #[.int .i64 p.1, .int .i64 p.2.1, .int .i64 p.2.2.1, .int .i64 p.2.2.2], .agg #[.int .i64 q.1, .int .i64 q.2.1, .int .i64 q.2.2.1, .int .i64 q.2.2.2]] w fun e w' => e = .returned (.agg #[.int .i64 ((qMulS bad p q).1.1), .int .i64 ((qMulS bad p q).1.2.1), .int .i64 ((qMulS bad p q).1.2.2.1), .int .i64 ((qMulS bad p q).1.2.2.2)]) ∧ Fl b (qMulS bad p q).2 w' ∧ Kept b w w' := by
  have h := xMul_any b bad p q w hw
  rw [xMul_eq] at h
  exact h
theorem yBack_any (q : V4) (w : World) :
    Calls Try.prog 13 #[.agg #[.int .i64 q.1, .int .i64 q.2.1, .int .i64 q.2.2.1, .int .i64 q.2.2.2]] w fun e w' => e = .returned (.agg #[.int .i64 (qBackS q).1, .int .i64 (qBackS q).2.1, .int .i64 (qBackS q).2.2.1, .int .i64 (qBackS q).2.2.2]) ∧ Below w.heap.size w w' := by
  have h := xBack_any q w
  rw [xBack_eq] at h
  exact h
set_option maxRecDepth 100000 in
set_option maxHeartbeats 4000000 in
theorem QuatThere_bf (q : V4) (p : V3) (w : World) (hu : qUnitS false q = ((0, 0, 0, 0), true)) (v0 : -9223372036854775808 ≤ p.1 ∧ p.1 ≤ 9223372036854775807) (v1 : -9223372036854775808 ≤ p.2.1 ∧ p.2.1 ≤ 9223372036854775807) (v2 : -9223372036854775808 ≤ p.2.2 ∧ p.2.2 ≤ 9223372036854775807) (hp : nearS p (0, 0, 0) 1099511627776 = false) :
    Calls Try.prog 4 #[.agg #[.int .i64 q.1, .int .i64 q.2.1, .int .i64 q.2.2.1, .int .i64 q.2.2.2], .agg #[.int .i64 p.1, .int .i64 p.2.1, .int .i64 p.2.2]] w fun e w' => e = .returned (.bool true) ∧ Below w.heap.size w w' := by
  go_enter Try.func4, Try.ntmps4
  go_wp2_with fail
  refine (awake_any  _).mono ?_
  rintro e w1 ⟨rfl, k1⟩
  have K1 : Below w.heap.size w w1 := bel_then (bel_al (bel_al (Below.refl w.heap.size w) _) _) k1
  have B0_1 : Arr w.heap.size [.int .i64 q.1, .int .i64 q.2.1, .int .i64 q.2.2.1, .int .i64 q.2.2.2] w1 := ((Arr_at _ _ [.int .i64 q.1, .int .i64 q.2.1, .int .i64 q.2.2.1, .int .i64 q.2.2.2] _ (by simp)).alloc _).below k1
  have B1_1 : Arr (w.heap.size + 1) [.int .i64 p.1, .int .i64 p.2.1, .int .i64 p.2.2] w1 := (Arr_at _ _ [.int .i64 p.1, .int .i64 p.2.1, .int .i64 p.2.2] _ (by simp)).below k1
  have z1 := B1_1.lies
  clear k1
  have c2_B0_0 : w1.cell? ⟨w.heap.size, 0, none⟩ = some (.int .i64 q.1) := B0_1.c 0 (of_decide_eq_true rfl)
  have c2_B0_1 : w1.cell? ⟨w.heap.size, 1, none⟩ = some (.int .i64 q.2.1) := B0_1.c 1 (of_decide_eq_true rfl)
  have c2_B0_2 : w1.cell? ⟨w.heap.size, 2, none⟩ = some (.int .i64 q.2.2.1) := B0_1.c 2 (of_decide_eq_true rfl)
  have c2_B0_3 : w1.cell? ⟨w.heap.size, 3, none⟩ = some (.int .i64 q.2.2.2) := B0_1.c 3 (of_decide_eq_true rfl)
  have l2_B0 := B0_1.lies
  go_wp2_with fail
  refine (lunit_any q _).mono ?_
  rintro e w2 ⟨rfl, k2⟩
  rw [hu]
  try dsimp only
  have K2 : Below w.heap.size w w2 := bel_then (bel_al K1 _) k2
  have B0_2 : Arr w.heap.size [.int .i64 q.1, .int .i64 q.2.1, .int .i64 q.2.2.1, .int .i64 q.2.2.2] w2 := (B0_1.alloc _).below k2
  have B1_2 : Arr (w.heap.size + 1) [.int .i64 p.1, .int .i64 p.2.1, .int .i64 p.2.2] w2 := (B1_1.alloc _).below k2
  have B2_2 : Fl w1.heap.size false w2 := (Fl_at _ _ _ _ (by simp)).below k2
  have z2 := B2_2.lies
  clear c2_B0_0 c2_B0_1 c2_B0_2 c2_B0_3 l2_B0 K1 B0_1 B1_1 k2
  have c3_B1_0 : w2.cell? ⟨w.heap.size + 1, 0, none⟩ = some (.int .i64 p.1) := B1_2.c 0 (of_decide_eq_true rfl)
  have c3_B1_1 : w2.cell? ⟨w.heap.size + 1, 1, none⟩ = some (.int .i64 p.2.1) := B1_2.c 1 (of_decide_eq_true rfl)
  have c3_B1_2 : w2.cell? ⟨w.heap.size + 1, 2, none⟩ = some (.int .i64 p.2.2) := B1_2.c 2 (of_decide_eq_true rfl)
  have l3_B1 := B1_2.lies
  go_wp2_with fail
  refine (near_any p (0, 0, 0) 1099511627776 _ (by first | omega | (dsimp only; omega)) (by first | omega | (dsimp only; omega)) (by first | omega | (dsimp only; omega)) (by omega)).mono ?_
  rintro e w3 ⟨rfl, k3⟩
  rw [hp]
  try dsimp only
  have K3 : Below w.heap.size w w3 := bel_then (bel_al K2 _) k3
  have B0_3 : Arr w.heap.size [.int .i64 q.1, .int .i64 q.2.1, .int .i64 q.2.2.1, .int .i64 q.2.2.2] w3 := (B0_2.alloc _).below k3
  have B1_3 : Arr (w.heap.size + 1) [.int .i64 p.1, .int .i64 p.2.1, .int .i64 p.2.2] w3 := (B1_2.alloc _).below k3
  have B2_3 : Fl w1.heap.size false w3 := (B2_2.alloc _).below k3
  have B3_3 : Arr w2.heap.size [.int .i64 0, .int .i64 0, .int .i64 0, .int .i64 0] w3 := (Arr_at _ _ [.int .i64 0, .int .i64 0, .int .i64 0, .int .i64 0] _ (by simp)).below k3
  have z3 := B3_3.lies
  clear c3_B1_0 c3_B1_1 c3_B1_2 l3_B1 K2 B0_2 B1_2 B2_2 k3
  go_wp2
  go_ret
  exact ⟨rfl, K3⟩
set_option maxRecDepth 100000 in
set_option maxHeartbeats 4000000 in
theorem QuatThere_br (q : V4) (p : V3) (w : World) (hu : qUnitS false q = ((0, 0, 0, 0), true)) (s0 s1 s2 s3 t0 t1 t2 : Int) (v0 : -9223372036854775808 ≤ p.1 ∧ p.1 ≤ 9223372036854775807) (v1 : -9223372036854775808 ≤ p.2.1 ∧ p.2.1 ≤ 9223372036854775807) (v2 : -9223372036854775808 ≤ p.2.2 ∧ p.2.2 ≤ 9223372036854775807) (hp : nearS p (0, 0, 0) 1099511627776 = true) (hr : qFromRodS false p = ((s0, s1, s2, s3), false)) (ht : qToRodS false (s0, s1, s2, s3) = ((t0, t1, t2), false)) (j0 : -1024 ≤ t0 - p.1 ∧ t0 - p.1 ≤ 1024) (j1 : -1024 ≤ t1 - p.2.1 ∧ t1 - p.2.1 ≤ 1024) (j2 : -1024 ≤ t2 - p.2.2 ∧ t2 - p.2.2 ≤ 1024) (hj : nearS (t0, t1, t2) p 1024 = true) :
    Calls Try.prog 4 #[.agg #[.int .i64 q.1, .int .i64 q.2.1, .int .i64 q.2.2.1, .int .i64 q.2.2.2], .agg #[.int .i64 p.1, .int .i64 p.2.1, .int .i64 p.2.2]] w fun e w' => e = .returned (.bool true) ∧ Below w.heap.size w w' := by
  go_enter Try.func4, Try.ntmps4
  go_wp2_with fail
  refine (awake_any  _).mono ?_
  rintro e w1 ⟨rfl, k1⟩
  have K1 : Below w.heap.size w w1 := bel_then (bel_al (bel_al (Below.refl w.heap.size w) _) _) k1
  have B0_1 : Arr w.heap.size [.int .i64 q.1, .int .i64 q.2.1, .int .i64 q.2.2.1, .int .i64 q.2.2.2] w1 := ((Arr_at _ _ [.int .i64 q.1, .int .i64 q.2.1, .int .i64 q.2.2.1, .int .i64 q.2.2.2] _ (by simp)).alloc _).below k1
  have B1_1 : Arr (w.heap.size + 1) [.int .i64 p.1, .int .i64 p.2.1, .int .i64 p.2.2] w1 := (Arr_at _ _ [.int .i64 p.1, .int .i64 p.2.1, .int .i64 p.2.2] _ (by simp)).below k1
  have z1 := B1_1.lies
  clear k1
  have c2_B0_0 : w1.cell? ⟨w.heap.size, 0, none⟩ = some (.int .i64 q.1) := B0_1.c 0 (of_decide_eq_true rfl)
  have c2_B0_1 : w1.cell? ⟨w.heap.size, 1, none⟩ = some (.int .i64 q.2.1) := B0_1.c 1 (of_decide_eq_true rfl)
  have c2_B0_2 : w1.cell? ⟨w.heap.size, 2, none⟩ = some (.int .i64 q.2.2.1) := B0_1.c 2 (of_decide_eq_true rfl)
  have c2_B0_3 : w1.cell? ⟨w.heap.size, 3, none⟩ = some (.int .i64 q.2.2.2) := B0_1.c 3 (of_decide_eq_true rfl)
  have l2_B0 := B0_1.lies
  go_wp2_with fail
  refine (lunit_any q _).mono ?_
  rintro e w2 ⟨rfl, k2⟩
  rw [hu]
  try dsimp only
  have K2 : Below w.heap.size w w2 := bel_then (bel_al K1 _) k2
  have B0_2 : Arr w.heap.size [.int .i64 q.1, .int .i64 q.2.1, .int .i64 q.2.2.1, .int .i64 q.2.2.2] w2 := (B0_1.alloc _).below k2
  have B1_2 : Arr (w.heap.size + 1) [.int .i64 p.1, .int .i64 p.2.1, .int .i64 p.2.2] w2 := (B1_1.alloc _).below k2
  have B2_2 : Fl w1.heap.size false w2 := (Fl_at _ _ _ _ (by simp)).below k2
  have z2 := B2_2.lies
  clear c2_B0_0 c2_B0_1 c2_B0_2 c2_B0_3 l2_B0 K1 B0_1 B1_1 k2
  have c3_B1_0 : w2.cell? ⟨w.heap.size + 1, 0, none⟩ = some (.int .i64 p.1) := B1_2.c 0 (of_decide_eq_true rfl)
  have c3_B1_1 : w2.cell? ⟨w.heap.size + 1, 1, none⟩ = some (.int .i64 p.2.1) := B1_2.c 1 (of_decide_eq_true rfl)
  have c3_B1_2 : w2.cell? ⟨w.heap.size + 1, 2, none⟩ = some (.int .i64 p.2.2) := B1_2.c 2 (of_decide_eq_true rfl)
  have l3_B1 := B1_2.lies
  go_wp2_with fail
  refine (near_any p (0, 0, 0) 1099511627776 _ (by first | omega | (dsimp only; omega)) (by first | omega | (dsimp only; omega)) (by first | omega | (dsimp only; omega)) (by omega)).mono ?_
  rintro e w3 ⟨rfl, k3⟩
  rw [hp]
  try dsimp only
  have K3 : Below w.heap.size w w3 := bel_then (bel_al K2 _) k3
  have B0_3 : Arr w.heap.size [.int .i64 q.1, .int .i64 q.2.1, .int .i64 q.2.2.1, .int .i64 q.2.2.2] w3 := (B0_2.alloc _).below k3
  have B1_3 : Arr (w.heap.size + 1) [.int .i64 p.1, .int .i64 p.2.1, .int .i64 p.2.2] w3 := (B1_2.alloc _).below k3
  have B2_3 : Fl w1.heap.size false w3 := (B2_2.alloc _).below k3
  have B3_3 : Arr w2.heap.size [.int .i64 0, .int .i64 0, .int .i64 0, .int .i64 0] w3 := (Arr_at _ _ [.int .i64 0, .int .i64 0, .int .i64 0, .int .i64 0] _ (by simp)).below k3
  have z3 := B3_3.lies
  clear c3_B1_0 c3_B1_1 c3_B1_2 l3_B1 K2 B0_2 B1_2 B2_2 k3
  have c4_B1_0 : w3.cell? ⟨w.heap.size + 1, 0, none⟩ = some (.int .i64 p.1) := B1_3.c 0 (of_decide_eq_true rfl)
  have c4_B1_1 : w3.cell? ⟨w.heap.size + 1, 1, none⟩ = some (.int .i64 p.2.1) := B1_3.c 1 (of_decide_eq_true rfl)
  have c4_B1_2 : w3.cell? ⟨w.heap.size + 1, 2, none⟩ = some (.int .i64 p.2.2) := B1_3.c 2 (of_decide_eq_true rfl)
  go_wp2_with fail
  refine (qFromRod_any w1.heap.size false p _ B2_3).mono ?_
  rintro e w4 ⟨rfl, f4, k4⟩
  rw [hr] at f4 ⊢
  dsimp only at f4 ⊢
  have K4 : Below w.heap.size w w4 := k4.on K3 (by omega)
  have B0_4 : Arr w.heap.size [.int .i64 q.1, .int .i64 q.2.1, .int .i64 q.2.2.1, .int .i64 q.2.2.2] w4 := B0_3.kept k4 (by omega)
  have B1_4 : Arr (w.heap.size + 1) [.int .i64 p.1, .int .i64 p.2.1, .int .i64 p.2.2] w4 := B1_3.kept k4 (by omega)
  have B3_4 : Arr w2.heap.size [.int .i64 0, .int .i64 0, .int .i64 0, .int .i64 0] w4 := B3_3.kept k4 (by omega)
  have z4 := B3_4.lies
  clear c4_B1_0 c4_B1_1 c4_B1_2 K3 B0_3 B1_3 B2_3 B3_3 k4
  go_wp2_with fail
  refine (qToRod_any w1.heap.size false (s0, s1, s2, s3) _ f4).mono ?_
  rintro e w5 ⟨rfl, f5, k5⟩
  rw [ht] at f5 ⊢
  dsimp only at f5 ⊢
  have K5 : Below w.heap.size w w5 := k5.on K4 (by omega)
  have B0_5 : Arr w.heap.size [.int .i64 q.1, .int .i64 q.2.1, .int .i64 q.2.2.1, .int .i64 q.2.2.2] w5 := B0_4.kept k5 (by omega)
  have B1_5 : Arr (w.heap.size + 1) [.int .i64 p.1, .int .i64 p.2.1, .int .i64 p.2.2] w5 := B1_4.kept k5 (by omega)
  have B3_5 : Arr w2.heap.size [.int .i64 0, .int .i64 0, .int .i64 0, .int .i64 0] w5 := B3_4.kept k5 (by omega)
  have z5 := B3_5.lies
  clear K4 B0_4 B1_4 f4 B3_4 k5
  have c6_B1_0 : w5.cell? ⟨w.heap.size + 1, 0, none⟩ = some (.int .i64 p.1) := B1_5.c 0 (of_decide_eq_true rfl)
  have c6_B1_1 : w5.cell? ⟨w.heap.size + 1, 1, none⟩ = some (.int .i64 p.2.1) := B1_5.c 1 (of_decide_eq_true rfl)
  have c6_B1_2 : w5.cell? ⟨w.heap.size + 1, 2, none⟩ = some (.int .i64 p.2.2) := B1_5.c 2 (of_decide_eq_true rfl)
  have c6_B2 := f5.cell
  have l6_B1 := B1_5.lies
  have l6_B2 := f5.lies
  go_wp2_with fail
  refine (near_any (t0, t1, t2) p 1024 _ (by first | omega | (dsimp only; omega)) (by first | omega | (dsimp only; omega)) (by first | omega | (dsimp only; omega)) (by omega)).mono ?_
  rintro e w6 ⟨rfl, k6⟩
  rw [hj]
  try dsimp only
  have K6 : Below w.heap.size w w6 := bel_then (bel_al K5 _) k6
  have B0_6 : Arr w.heap.size [.int .i64 q.1, .int .i64 q.2.1, .int .i64 q.2.2.1, .int .i64 q.2.2.2] w6 := (B0_5.alloc _).below k6
  have B1_6 : Arr (w.heap.size + 1) [.int .i64 p.1, .int .i64 p.2.1, .int .i64 p.2.2] w6 := (B1_5.alloc _).below k6
  have B2_6 : Fl w1.heap.size false w6 := (f5.alloc _).below k6
  have B3_6 : Arr w2.heap.size [.int .i64 0, .int .i64 0, .int .i64 0, .int .i64 0] w6 := (B3_5.alloc _).below k6
  have B4_6 : Arr w5.heap.size [.int .i64 t0, .int .i64 t1, .int .i64 t2] w6 := (Arr_at _ _ [.int .i64 t0, .int .i64 t1, .int .i64 t2] _ (by simp)).below k6
  have z6 := B4_6.lies
  clear c6_B1_0 c6_B1_1 c6_B1_2 c6_B2 l6_B1 l6_B2 K5 B0_5 B1_5 f5 B3_5 k6
  go_wp2
  go_ret
  exact ⟨rfl, K6⟩
set_option maxRecDepth 100000 in
set_option maxHeartbeats 4000000 in
theorem QuatThere_gf (q : V4) (p : V3) (w : World) (u0 u1 u2 u3 m0 m1 m2 m3 m4 m5 m6 m7 m8 a0 a1 a2 a3 o0 o1 o2 o3 : Int) (hu : qUnitS false q = ((u0, u1, u2, u3), false)) (hm : qMatrixS false (u0, u1, u2, u3) = ((m0, m1, m2, m3, m4, m5, m6, m7, m8), false)) (hf : qFromMatrixS false (m0, m1, m2, m3, m4, m5, m6, m7, m8) = ((a0, a1, a2, a3), false)) (hb : qBackS (u0, u1, u2, u3) = ((-u0), (-u1), (-u2), u3)) (hd : qMulS false (a0, a1, a2, a3) ((-u0), (-u1), (-u2), u3) = ((o0, o1, o2, o3), false)) (n0 : -1024 ≤ o0 ∧ o0 ≤ 1024) (n1 : -1024 ≤ o1 ∧ o1 ≤ 1024) (n2 : -1024 ≤ o2 ∧ o2 ≤ 1024) (hn : nearS (o0, o1, o2) (0, 0, 0) 1024 = true) (v0 : -9223372036854775808 ≤ p.1 ∧ p.1 ≤ 9223372036854775807) (v1 : -9223372036854775808 ≤ p.2.1 ∧ p.2.1 ≤ 9223372036854775807) (v2 : -9223372036854775808 ≤ p.2.2 ∧ p.2.2 ≤ 9223372036854775807) (hp : nearS p (0, 0, 0) 1099511627776 = false) :
    Calls Try.prog 4 #[.agg #[.int .i64 q.1, .int .i64 q.2.1, .int .i64 q.2.2.1, .int .i64 q.2.2.2], .agg #[.int .i64 p.1, .int .i64 p.2.1, .int .i64 p.2.2]] w fun e w' => e = .returned (.bool true) ∧ Below w.heap.size w w' := by
  go_enter Try.func4, Try.ntmps4
  go_wp2_with fail
  refine (awake_any  _).mono ?_
  rintro e w1 ⟨rfl, k1⟩
  have K1 : Below w.heap.size w w1 := bel_then (bel_al (bel_al (Below.refl w.heap.size w) _) _) k1
  have B0_1 : Arr w.heap.size [.int .i64 q.1, .int .i64 q.2.1, .int .i64 q.2.2.1, .int .i64 q.2.2.2] w1 := ((Arr_at _ _ [.int .i64 q.1, .int .i64 q.2.1, .int .i64 q.2.2.1, .int .i64 q.2.2.2] _ (by simp)).alloc _).below k1
  have B1_1 : Arr (w.heap.size + 1) [.int .i64 p.1, .int .i64 p.2.1, .int .i64 p.2.2] w1 := (Arr_at _ _ [.int .i64 p.1, .int .i64 p.2.1, .int .i64 p.2.2] _ (by simp)).below k1
  have z1 := B1_1.lies
  clear k1
  have c2_B0_0 : w1.cell? ⟨w.heap.size, 0, none⟩ = some (.int .i64 q.1) := B0_1.c 0 (of_decide_eq_true rfl)
  have c2_B0_1 : w1.cell? ⟨w.heap.size, 1, none⟩ = some (.int .i64 q.2.1) := B0_1.c 1 (of_decide_eq_true rfl)
  have c2_B0_2 : w1.cell? ⟨w.heap.size, 2, none⟩ = some (.int .i64 q.2.2.1) := B0_1.c 2 (of_decide_eq_true rfl)
  have c2_B0_3 : w1.cell? ⟨w.heap.size, 3, none⟩ = some (.int .i64 q.2.2.2) := B0_1.c 3 (of_decide_eq_true rfl)
  have l2_B0 := B0_1.lies
  go_wp2_with fail
  refine (lunit_any q _).mono ?_
  rintro e w2 ⟨rfl, k2⟩
  rw [hu]
  try dsimp only
  have K2 : Below w.heap.size w w2 := bel_then (bel_al K1 _) k2
  have B0_2 : Arr w.heap.size [.int .i64 q.1, .int .i64 q.2.1, .int .i64 q.2.2.1, .int .i64 q.2.2.2] w2 := (B0_1.alloc _).below k2
  have B1_2 : Arr (w.heap.size + 1) [.int .i64 p.1, .int .i64 p.2.1, .int .i64 p.2.2] w2 := (B1_1.alloc _).below k2
  have B2_2 : Fl w1.heap.size false w2 := (Fl_at _ _ _ _ (by simp)).below k2
  have z2 := B2_2.lies
  clear c2_B0_0 c2_B0_1 c2_B0_2 c2_B0_3 l2_B0 K1 B0_1 B1_1 k2
  go_wp2_with fail
  refine (qMatrix_any w1.heap.size false (u0, u1, u2, u3) _ (B2_2.alloc _)).mono ?_
  rintro e w3 ⟨rfl, f3, k3⟩
  rw [hm] at f3 ⊢
  dsimp only at f3 ⊢
  have K3 : Below w.heap.size w w3 := k3.on (bel_al K2 _) (by omega)
  have B0_3 : Arr w.heap.size [.int .i64 q.1, .int .i64 q.2.1, .int .i64 q.2.2.1, .int .i64 q.2.2.2] w3 := (B0_2.alloc _).kept k3 (by omega)
  have B1_3 : Arr (w.heap.size + 1) [.int .i64 p.1, .int .i64 p.2.1, .int .i64 p.2.2] w3 := (B1_2.alloc _).kept k3 (by omega)
  have B3_3 : Arr w2.heap.size [.int .i64 u0, .int .i64 u1, .int .i64 u2, .int .i64 u3] w3 := (Arr_at _ _ [.int .i64 u0, .int .i64 u1, .int .i64 u2, .int .i64 u3] _ (by simp)).kept k3 (by omega)
  have z3 := B3_3.lies
  clear K2 B0_2 B1_2 B2_2 k3
  go_wp2_with fail
  refine (qFromMatrix_any w1.heap.size false (m0, m1, m2, m3, m4, m5, m6, m7, m8) _ f3).mono ?_
  rintro e w4 ⟨rfl, f4, k4⟩
  rw [hf] at f4 ⊢
  dsimp only at f4 ⊢
  have K4 : Below w.heap.size w w4 := k4.on K3 (by omega)
  have B0_4 : Arr w.heap.size [.int .i64 q.1, .int .i64 q.2.1, .int .i64 q.2.2.1, .int .i64 q.2.2.2] w4 := B0_3.kept k4 (by omega)
  have B1_4 : Arr (w.heap.size + 1) [.int .i64 p.1, .int .i64 p.2.1, .int .i64 p.2.2] w4 := B1_3.kept k4 (by omega)
  have B3_4 : Arr w2.heap.size [.int .i64 u0, .int .i64 u1, .int .i64 u2, .int .i64 u3] w4 := B3_3.kept k4 (by omega)
  have z4 := B3_4.lies
  clear K3 B0_3 B1_3 f3 B3_3 k4
  go_wp2_with fail
  rename_i K0 aK0
  have cont1 : ∀ (W1 : World) (t1_11 t1_12 t1_13 t1_14 t1_15 t1_16 t1_17 t1_18 t1_19 t1_20 t1_21 t1_22 t1_23 t1_24 t1_25 t1_26 t1_27 t1_28 t1_29 t1_30 t1_31 : Value) (x1_0 : Nat) (x1_1 : Nat) , Below w.heap.size w W1 → Arr w.heap.size [.int .i64 q.1, .int .i64 q.2.1, .int .i64 q.2.2.1, .int .i64 q.2.2.2] W1 → Arr (w.heap.size + 1) [.int .i64 p.1, .int .i64 p.2.1, .int .i64 p.2.2] W1 → Fl w1.heap.size false W1 → Arr w2.heap.size [.int .i64 u0, .int .i64 u1, .int .i64 u2, .int .i64 u3] W1 → Arr w4.heap.size [.int .i64 a0, .int .i64 a1, .int .i64 a2, .int .i64 a3] W1 → Fl x1_0 false W1 → Arr x1_1 [.int .i64 o0, .int .i64 o1, .int .i64 o2, .int .i64 o3] W1 → w.heap.size ≤ x1_0 → w.heap.size ≤ x1_1 → w.heap.size < x1_0 → w.heap.size + 1 < x1_0 → w1.heap.size < x1_0 → w2.heap.size < x1_0 → w4.heap.size < x1_0 → w.heap.size < x1_1 → w.heap.size + 1 < x1_1 → w1.heap.size < x1_1 → w2.heap.size < x1_1 → w4.heap.size < x1_1 → x1_0 ≠ x1_1 → K0 { tmps := #[.agg #[.int .i64 q.1, .int .i64 q.2.1, .int .i64 q.2.2.1, .int .i64 q.2.2.2], .agg #[.int .i64 p.1, .int .i64 p.2.1, .int .i64 p.2.2], .pointer (some ⟨w.heap.size, 0, none⟩), .pointer (some ⟨w.heap.size + 1, 0, none⟩), .bool false, .pointer (some ⟨w1.heap.size, 0, none⟩), .pointer (some ⟨w2.heap.size, 0, none⟩), .bool true, .pointer (some ⟨w4.heap.size, 0, none⟩), .pointer (some ⟨x1_1, 0, none⟩), undef, t1_11, t1_12, t1_13, t1_14, t1_15, t1_16, t1_17, t1_18, t1_19, t1_20, t1_21, t1_22, t1_23, t1_24, t1_25, t1_26, t1_27, t1_28, t1_29, t1_30, t1_31, undef, undef, undef, undef, undef, undef, undef, undef, undef, undef, undef, undef, undef, undef, undef, undef, undef, undef, undef, undef, undef, undef, undef, undef, undef, undef, undef, undef, undef, undef, undef, undef, undef, undef, undef], defers := [] } W1 := by
    intro W1 t1_11 t1_12 t1_13 t1_14 t1_15 t1_16 t1_17 t1_18 t1_19 t1_20 t1_21 t1_22 t1_23 t1_24 t1_25 t1_26 t1_27 t1_28 t1_29 t1_30 t1_31 x1_0 x1_1 KC1 B0_c1 B1_c1 B2_c1 B3_c1 B4_c1 B5_c1 B6_c1 s1_0 s1_1 s1_2 s1_3 s1_4 s1_5 s1_6 s1_7 s1_8 s1_9 s1_10 s1_11 s1_12
    have zc1_B0 := B0_c1.lies
    have zc1_B1 := B1_c1.lies
    have zc1_B2 := B2_c1.lies
    have zc1_B3 := B3_c1.lies
    have zc1_B4 := B4_c1.lies
    have zc1_B5 := B5_c1.lies
    have zc1_B6 := B6_c1.lies
    apply aK0
    have c6_B2 := B2_c1.cell
    have c6_B6_0 : W1.cell? ⟨x1_1, 0, none⟩ = some (.int .i64 o0) := B6_c1.c 0 (of_decide_eq_true rfl)
    have c6_B6_1 : W1.cell? ⟨x1_1, 1, none⟩ = some (.int .i64 o1) := B6_c1.c 1 (of_decide_eq_true rfl)
    have c6_B6_2 : W1.cell? ⟨x1_1, 2, none⟩ = some (.int .i64 o2) := B6_c1.c 2 (of_decide_eq_true rfl)
    go_wp2_with fail
    refine (near_any (o0, o1, o2) (0, 0, 0) 1024 _ (by first | omega | (dsimp only; omega)) (by first | omega | (dsimp only; omega)) (by first | omega | (dsimp only; omega)) (by omega)).mono ?_
    rintro e w7 ⟨rfl, k7⟩
    rw [hn]
    try dsimp only
    have K7 : Below w.heap.size w w7 := bel_then KC1 k7
    have B0_7 : Arr w.heap.size [.int .i64 q.1, .int .i64 q.2.1, .int .i64 q.2.2.1, .int .i64 q.2.2.2] w7 := B0_c1.below k7
    have B1_7 : Arr (w.heap.size + 1) [.int .i64 p.1, .int .i64 p.2.1, .int .i64 p.2.2] w7 := B1_c1.below k7
    have B2_7 : Fl w1.heap.size false w7 := B2_c1.below k7
    have B3_7 : Arr w2.heap.size [.int .i64 u0, .int .i64 u1, .int .i64 u2, .int .i64 u3] w7 := B3_c1.below k7
    have B4_7 : Arr w4.heap.size [.int .i64 a0, .int .i64 a1, .int .i64 a2, .int .i64 a3] w7 := B4_c1.below k7
    have B5_7 : Fl x1_0 false w7 := B5_c1.below k7
    have B6_7 : Arr x1_1 [.int .i64 o0, .int .i64 o1, .int .i64 o2, .int .i64 o3] w7 := B6_c1.below k7
    have z7 := B6_7.lies
    clear c6_B2 c6_B6_0 c6_B6_1 c6_B6_2 B0_c1 B1_c1 B2_c1 B3_c1 B4_c1 B5_c1 B6_c1 k7
    have c7_B1_0 : w7.cell? ⟨w.heap.size + 1, 0, none⟩ = some (.int .i64 p.1) := B1_7.c 0 (of_decide_eq_true rfl)
    have c7_B1_1 : w7.cell? ⟨w.heap.size + 1, 1, none⟩ = some (.int .i64 p.2.1) := B1_7.c 1 (of_decide_eq_true rfl)
    have c7_B1_2 : w7.cell? ⟨w.heap.size + 1, 2, none⟩ = some (.int .i64 p.2.2) := B1_7.c 2 (of_decide_eq_true rfl)
    go_wp2_with fail
    refine (near_any p (0, 0, 0) 1099511627776 _ (by first | omega | (dsimp only; omega)) (by first | omega | (dsimp only; omega)) (by first | omega | (dsimp only; omega)) (by omega)).mono ?_
    rintro e w8 ⟨rfl, k8⟩
    rw [hp]
    try dsimp only
    have K8 : Below w.heap.size w w8 := bel_then K7 k8
    have B0_8 : Arr w.heap.size [.int .i64 q.1, .int .i64 q.2.1, .int .i64 q.2.2.1, .int .i64 q.2.2.2] w8 := B0_7.below k8
    have B1_8 : Arr (w.heap.size + 1) [.int .i64 p.1, .int .i64 p.2.1, .int .i64 p.2.2] w8 := B1_7.below k8
    have B2_8 : Fl w1.heap.size false w8 := B2_7.below k8
    have B3_8 : Arr w2.heap.size [.int .i64 u0, .int .i64 u1, .int .i64 u2, .int .i64 u3] w8 := B3_7.below k8
    have B4_8 : Arr w4.heap.size [.int .i64 a0, .int .i64 a1, .int .i64 a2, .int .i64 a3] w8 := B4_7.below k8
    have B5_8 : Fl x1_0 false w8 := B5_7.below k8
    have B6_8 : Arr x1_1 [.int .i64 o0, .int .i64 o1, .int .i64 o2, .int .i64 o3] w8 := B6_7.below k8
    have z8 := B6_8.lies
    clear c7_B1_0 c7_B1_1 c7_B1_2 K7 B0_7 B1_7 B2_7 B3_7 B4_7 B5_7 B6_7 k8
    go_wp2
    go_ret
    exact ⟨rfl, K8⟩
  refine wp_region_held_drew (S := fun w' => Arr w4.heap.size [.int .i64 a0, .int .i64 a1, .int .i64 a2, .int .i64 a3] w' ∧ Arr w2.heap.size [.int .i64 u0, .int .i64 u1, .int .i64 u2, .int .i64 u3] w') (by kernel_rfl) ⟨(Arr_at _ _ [.int .i64 a0, .int .i64 a1, .int .i64 a2, .int .i64 a3] _ (by simp)).drew, (B3_4.alloc _).drew⟩ (fun hHeld => ?_)
  refine take_at (i := 0) (v := ?v1) rfl (by kernel_rfl) (by kernel_rfl) (by kernel_rfl) (fun _ _ _ h => h) (Or.inl ⟨by rfl, ?y1⟩) hHeld ?t1
  case y1 => (intro wx hSw; go_simp <;> with_reducible rfl)
  simp only [Act.put, List.setIfInBounds_toArray, List.set_cons_zero, List.set_cons_succ]
  refine take_at (i := 2) (v := ?v2) rfl (by kernel_rfl) (by kernel_rfl) (by kernel_rfl) (fun _ _ _ h => h) (Or.inl ⟨by rfl, ?y2⟩) hHeld ?t2
  case y2 => (intro wx hSw; have hc0 : wx.cell? ⟨w4.heap.size, 0, none⟩ = some (.int .i64 a0) := hSw.1.c 0 (of_decide_eq_true rfl); have hc1 : wx.cell? ⟨w4.heap.size, 1, none⟩ = some (.int .i64 a1) := hSw.1.c 1 (of_decide_eq_true rfl); have hc2 : wx.cell? ⟨w4.heap.size, 2, none⟩ = some (.int .i64 a2) := hSw.1.c 2 (of_decide_eq_true rfl); have hc3 : wx.cell? ⟨w4.heap.size, 3, none⟩ = some (.int .i64 a3) := hSw.1.c 3 (of_decide_eq_true rfl); go_simp <;> with_reducible rfl)
  simp only [Act.put, List.setIfInBounds_toArray, List.set_cons_zero, List.set_cons_succ]
  refine take_at (i := 3) (v := ?v3) rfl (by kernel_rfl) (by kernel_rfl) (by kernel_rfl) (fun _ _ _ h => h) (Or.inl ⟨by rfl, ?y3⟩) hHeld ?t3
  case y3 => (intro wx hSw; have hc0 : wx.cell? ⟨w2.heap.size, 0, none⟩ = some (.int .i64 u0) := hSw.2.c 0 (of_decide_eq_true rfl); have hc1 : wx.cell? ⟨w2.heap.size, 1, none⟩ = some (.int .i64 u1) := hSw.2.c 1 (of_decide_eq_true rfl); have hc2 : wx.cell? ⟨w2.heap.size, 2, none⟩ = some (.int .i64 u2) := hSw.2.c 2 (of_decide_eq_true rfl); have hc3 : wx.cell? ⟨w2.heap.size, 3, none⟩ = some (.int .i64 u3) := hSw.2.c 3 (of_decide_eq_true rfl); go_simp <;> with_reducible rfl)
  simp only [Act.put, List.setIfInBounds_toArray, List.set_cons_zero, List.set_cons_succ]
  refine call_at3 (i0 := 1) (i1 := 4) (i2 := 6) (by kernel_rfl) rfl rfl rfl (fun K hK => ?_) (fun K hK => ?_) (fun K hK => ?_)
  · go_simp
    clear hHeld
    refine hK.out _ _ ⟨((Arr_at _ _ [.int .i64 a0, .int .i64 a1, .int .i64 a2, .int .i64 a3] _ (by simp)).alloc _).drew, ((B3_4.alloc _).alloc _).drew⟩ (fun hHeld => ?_)
    clear hK K
    refine call_at2 (i0 := 4) (i1 := 6) (by kernel_rfl) rfl rfl (fun K hK => ?_) (fun K hK => ?_)
    · go_simp
      refine (yBack_any (u0, u1, u2, u3) _).mono ?_
      rintro e w5 ⟨rfl, k5⟩
      rw [hb]
      try dsimp only
      have K5 : Below w.heap.size w w5 := bel_then (Below.drew (bel_al (bel_al K4 _) _)) k5
      have B0_5 : Arr w.heap.size [.int .i64 q.1, .int .i64 q.2.1, .int .i64 q.2.2.1, .int .i64 q.2.2.2] w5 := ((B0_4.alloc _).alloc _).drew.below k5
      have B1_5 : Arr (w.heap.size + 1) [.int .i64 p.1, .int .i64 p.2.1, .int .i64 p.2.2] w5 := ((B1_4.alloc _).alloc _).drew.below k5
      have B2_5 : Fl w1.heap.size false w5 := ((f4.alloc _).alloc _).drew.below k5
      have B3_5 : Arr w2.heap.size [.int .i64 u0, .int .i64 u1, .int .i64 u2, .int .i64 u3] w5 := ((B3_4.alloc _).alloc _).drew.below k5
      have B4_5 : Arr w4.heap.size [.int .i64 a0, .int .i64 a1, .int .i64 a2, .int .i64 a3] w5 := ((Arr_at _ _ [.int .i64 a0, .int .i64 a1, .int .i64 a2, .int .i64 a3] _ (by simp)).alloc _).drew.below k5
      have B5_5 : Fl (w4.heap.size + 1) false w5 := (Fl_at _ _ _ _ (by simp)).drew.below k5
      have z5 := B5_5.lies
      clear hHeld
      refine hK.out _ _ ⟨B4_5, B3_5⟩ (fun hHeld => ?_)
      clear hK K K4 B0_4 B1_4 f4 B3_4 k5
      refine call_at2 (i0 := 5) (i1 := 6) (by kernel_rfl) rfl rfl (fun K hK => ?_) (fun K hK => ?_)
      · go_simp
        refine (yMul_any (w4.heap.size + 1) false (a0, a1, a2, a3) ((-u0), (-u1), (-u2), u3) _ B5_5).mono ?_
        rintro e w6 ⟨rfl, f6, k6⟩
        rw [hd] at f6 ⊢
        dsimp only at f6 ⊢
        have K6 : Below w.heap.size w w6 := k6.on K5 (by omega)
        have B0_6 : Arr w.heap.size [.int .i64 q.1, .int .i64 q.2.1, .int .i64 q.2.2.1, .int .i64 q.2.2.2] w6 := B0_5.kept k6 (by omega)
        have B1_6 : Arr (w.heap.size + 1) [.int .i64 p.1, .int .i64 p.2.1, .int .i64 p.2.2] w6 := B1_5.kept k6 (by omega)
        have B2_6 : Fl w1.heap.size false w6 := B2_5.kept k6 (by omega)
        have B3_6 : Arr w2.heap.size [.int .i64 u0, .int .i64 u1, .int .i64 u2, .int .i64 u3] w6 := B3_5.kept k6 (by omega)
        have B4_6 : Arr w4.heap.size [.int .i64 a0, .int .i64 a1, .int .i64 a2, .int .i64 a3] w6 := B4_5.kept k6 (by omega)
        have z6 := f6.lies
        clear hHeld
        refine hK.out _ _ ⟨B4_6, B3_6⟩ (fun hHeld => ?_)
        clear hK K K5 B0_5 B1_5 B2_5 B3_5 B4_5 B5_5 k6
        refine call_at (i := 6) (by kernel_rfl) rfl (fun K hK => ?_)
        go_simp
        clear hHeld
        refine hK.out _ _ ⟨(B4_6.alloc _), (B3_6.alloc _)⟩ (fun hHeld => ?_)
        clear hK K
        refine call_at (i := 7) (by kernel_rfl) rfl (fun K hK => ?_)
        go_simp
        clear hHeld
        refine hK.out _ _ ⟨(B4_6.alloc _), (B3_6.alloc _)⟩ (fun hHeld => ?_)
        clear hK K
        refine wpAnyH_done (by kernel_rfl) ?_ _
        clear hHeld
        exact cont1 _ _ _ _ _ _ _ _ _ _ _ _ _ _ _ _ _ _ _ _ _ _ (w4.heap.size + 1) w6.heap.size (bel_al K6 _) (B0_6.alloc _) (B1_6.alloc _) (B2_6.alloc _) (B3_6.alloc _) (B4_6.alloc _) (f6.alloc _) (Arr_at _ _ [.int .i64 o0, .int .i64 o1, .int .i64 o2, .int .i64 o3] _ (by simp)) (by omega) (by omega) (by omega) (by omega) (by omega) (by omega) (by omega) (by omega) (by omega) (by omega) (by omega) (by omega) (by omega)
      · go_simp
        clear hHeld
        refine hK.out _ _ ⟨(B4_5.alloc _), (B3_5.alloc _)⟩ (fun hHeld => ?_)
        clear hK K
        refine call_at (i := 5) (by kernel_rfl) rfl (fun K hK => ?_)
        go_simp
        refine (yMul_any (w4.heap.size + 1) false (a0, a1, a2, a3) ((-u0), (-u1), (-u2), u3) _ (B5_5.alloc _)).mono ?_
        rintro e w6 ⟨rfl, f6, k6⟩
        rw [hd] at f6 ⊢
        dsimp only at f6 ⊢
        have K6 : Below w.heap.size w w6 := k6.on (bel_al K5 _) (by omega)
        have B0_6 : Arr w.heap.size [.int .i64 q.1, .int .i64 q.2.1, .int .i64 q.2.2.1, .int .i64 q.2.2.2] w6 := (B0_5.alloc _).kept k6 (by omega)
        have B1_6 : Arr (w.heap.size + 1) [.int .i64 p.1, .int .i64 p.2.1, .int .i64 p.2.2] w6 := (B1_5.alloc _).kept k6 (by omega)
        have B2_6 : Fl w1.heap.size false w6 := (B2_5.alloc _).kept k6 (by omega)
        have B3_6 : Arr w2.heap.size [.int .i64 u0, .int .i64 u1, .int .i64 u2, .int .i64 u3] w6 := (B3_5.alloc _).kept k6 (by omega)
        have B4_6 : Arr w4.heap.size [.int .i64 a0, .int .i64 a1, .int .i64 a2, .int .i64 a3] w6 := (B4_5.alloc _).kept k6 (by omega)
        have B6_6 : Arr w5.heap.size [.int .i64 0, .int .i64 0, .int .i64 0, .int .i64 0] w6 := (Arr_at _ _ [.int .i64 0, .int .i64 0, .int .i64 0, .int .i64 0] _ (by simp)).kept k6 (by omega)
        have z6 := B6_6.lies
        clear hHeld
        refine hK.out _ _ ⟨B4_6, B3_6⟩ (fun hHeld => ?_)
        clear hK K K5 B0_5 B1_5 B2_5 B3_5 B4_5 B5_5 k6
        refine call_at (i := 7) (by kernel_rfl) rfl (fun K hK => ?_)
        have c8_B6_0 : w6.cell? ⟨w5.heap.size, 0, none⟩ = some (.int .i64 0) := B6_6.c 0 (of_decide_eq_true rfl)
        have c8_B6_1 : w6.cell? ⟨w5.heap.size, 1, none⟩ = some (.int .i64 0) := B6_6.c 1 (of_decide_eq_true rfl)
        have c8_B6_2 : w6.cell? ⟨w5.heap.size, 2, none⟩ = some (.int .i64 0) := B6_6.c 2 (of_decide_eq_true rfl)
        have c8_B6_3 : w6.cell? ⟨w5.heap.size, 3, none⟩ = some (.int .i64 0) := B6_6.c 3 (of_decide_eq_true rfl)
        have g8_B6_0 := B6_6.f 0 (of_decide_eq_true rfl)
        have g8_B6_1 := B6_6.f 1 (of_decide_eq_true rfl)
        have g8_B6_2 := B6_6.f 2 (of_decide_eq_true rfl)
        have g8_B6_3 := B6_6.f 3 (of_decide_eq_true rfl)
        go_simp
        clear hHeld
        refine hK.out _ _ ⟨((((B4_6.new w5.heap.size 0 (by omega) (.int .i64 o0)).new w5.heap.size 1 (by omega) (.int .i64 o1)).new w5.heap.size 2 (by omega) (.int .i64 o2)).new w5.heap.size 3 (by omega) (.int .i64 o3)), ((((B3_6.new w5.heap.size 0 (by omega) (.int .i64 o0)).new w5.heap.size 1 (by omega) (.int .i64 o1)).new w5.heap.size 2 (by omega) (.int .i64 o2)).new w5.heap.size 3 (by omega) (.int .i64 o3))⟩ (fun hHeld => ?_)
        clear hK K c8_B6_0 c8_B6_1 c8_B6_2 c8_B6_3 g8_B6_0 g8_B6_1 g8_B6_2 g8_B6_3
        refine wpAnyH_done (by kernel_rfl) ?_ _
        clear hHeld
        exact cont1 _ _ _ _ _ _ _ _ _ _ _ _ _ _ _ _ _ _ _ _ _ _ (w4.heap.size + 1) w5.heap.size (bel_new (bel_new (bel_new (bel_new K6 _ _ (by omega) _) _ _ (by omega) _) _ _ (by omega) _) _ _ (by omega) _) ((((B0_6.new w5.heap.size 0 (by omega) (.int .i64 o0)).new w5.heap.size 1 (by omega) (.int .i64 o1)).new w5.heap.size 2 (by omega) (.int .i64 o2)).new w5.heap.size 3 (by omega) (.int .i64 o3)) ((((B1_6.new w5.heap.size 0 (by omega) (.int .i64 o0)).new w5.heap.size 1 (by omega) (.int .i64 o1)).new w5.heap.size 2 (by omega) (.int .i64 o2)).new w5.heap.size 3 (by omega) (.int .i64 o3)) ((((B2_6.new w5.heap.size 0 (by omega) (.int .i64 o0)).new w5.heap.size 1 (by omega) (.int .i64 o1)).new w5.heap.size 2 (by omega) (.int .i64 o2)).new w5.heap.size 3 (by omega) (.int .i64 o3)) ((((B3_6.new w5.heap.size 0 (by omega) (.int .i64 o0)).new w5.heap.size 1 (by omega) (.int .i64 o1)).new w5.heap.size 2 (by omega) (.int .i64 o2)).new w5.heap.size 3 (by omega) (.int .i64 o3)) ((((B4_6.new w5.heap.size 0 (by omega) (.int .i64 o0)).new w5.heap.size 1 (by omega) (.int .i64 o1)).new w5.heap.size 2 (by omega) (.int .i64 o2)).new w5.heap.size 3 (by omega) (.int .i64 o3)) ((((f6.new w5.heap.size 0 (by omega) (.int .i64 o0)).new w5.heap.size 1 (by omega) (.int .i64 o1)).new w5.heap.size 2 (by omega) (.int .i64 o2)).new w5.heap.size 3 (by omega) (.int .i64 o3)) ((((B6_6.put 0 (of_decide_eq_true rfl) (.int .i64 o0) [.int .i64 o0, .int .i64 0, .int .i64 0, .int .i64 0] rfl).put 1 (of_decide_eq_true rfl) (.int .i64 o1) [.int .i64 o0, .int .i64 o1, .int .i64 0, .int .i64 0] rfl).put 2 (of_decide_eq_true rfl) (.int .i64 o2) [.int .i64 o0, .int .i64 o1, .int .i64 o2, .int .i64 0] rfl).put 3 (of_decide_eq_true rfl) (.int .i64 o3) [.int .i64 o0, .int .i64 o1, .int .i64 o2, .int .i64 o3] rfl) (by omega) (by omega) (by omega) (by omega) (by omega) (by omega) (by omega) (by omega) (by omega) (by omega) (by omega) (by omega) (by omega)
    · go_simp
      clear hHeld
      refine hK.out _ _ ⟨(((Arr_at _ _ [.int .i64 a0, .int .i64 a1, .int .i64 a2, .int .i64 a3] _ (by simp)).alloc _).alloc _).drew, (((B3_4.alloc _).alloc _).alloc _).drew⟩ (fun hHeld => ?_)
      clear hK K
      refine call_at (i := 4) (by kernel_rfl) rfl (fun K hK => ?_)
      go_simp
      refine (yBack_any (u0, u1, u2, u3) _).mono ?_
      rintro e w5 ⟨rfl, k5⟩
      rw [hb]
      try dsimp only
      have K5 : Below w.heap.size w w5 := bel_then (Below.drew (bel_al (bel_al (bel_al K4 _) _) _)) k5
      have B0_5 : Arr w.heap.size [.int .i64 q.1, .int .i64 q.2.1, .int .i64 q.2.2.1, .int .i64 q.2.2.2] w5 := (((B0_4.alloc _).alloc _).alloc _).drew.below k5
      have B1_5 : Arr (w.heap.size + 1) [.int .i64 p.1, .int .i64 p.2.1, .int .i64 p.2.2] w5 := (((B1_4.alloc _).alloc _).alloc _).drew.below k5
      have B2_5 : Fl w1.heap.size false w5 := (((f4.alloc _).alloc _).alloc _).drew.below k5
      have B3_5 : Arr w2.heap.size [.int .i64 u0, .int .i64 u1, .int .i64 u2, .int .i64 u3] w5 := (((B3_4.alloc _).alloc _).alloc _).drew.below k5
      have B4_5 : Arr w4.heap.size [.int .i64 a0, .int .i64 a1, .int .i64 a2, .int .i64 a3] w5 := (((Arr_at _ _ [.int .i64 a0, .int .i64 a1, .int .i64 a2, .int .i64 a3] _ (by simp)).alloc _).alloc _).drew.below k5
      have B5_5 : Fl (w4.heap.size + 1) false w5 := ((Fl_at _ _ _ _ (by simp)).alloc _).drew.below k5
      have B6_5 : Arr (w4.heap.size + 1 + 1) [.int .i64 0, .int .i64 0, .int .i64 0, .int .i64 0] w5 := (Arr_at _ _ [.int .i64 0, .int .i64 0, .int .i64 0, .int .i64 0] _ (by simp)).drew.below k5
      have z5 := B6_5.lies
      clear hHeld
      refine hK.out _ _ ⟨B4_5, B3_5⟩ (fun hHeld => ?_)
      clear hK K K4 B0_4 B1_4 f4 B3_4 k5
      refine call_at (i := 5) (by kernel_rfl) rfl (fun K hK => ?_)
      go_simp
      refine (yMul_any (w4.heap.size + 1) false (a0, a1, a2, a3) ((-u0), (-u1), (-u2), u3) _ B5_5).mono ?_
      rintro e w6 ⟨rfl, f6, k6⟩
      rw [hd] at f6 ⊢
      dsimp only at f6 ⊢
      have K6 : Below w.heap.size w w6 := k6.on K5 (by omega)
      have B0_6 : Arr w.heap.size [.int .i64 q.1, .int .i64 q.2.1, .int .i64 q.2.2.1, .int .i64 q.2.2.2] w6 := B0_5.kept k6 (by omega)
      have B1_6 : Arr (w.heap.size + 1) [.int .i64 p.1, .int .i64 p.2.1, .int .i64 p.2.2] w6 := B1_5.kept k6 (by omega)
      have B2_6 : Fl w1.heap.size false w6 := B2_5.kept k6 (by omega)
      have B3_6 : Arr w2.heap.size [.int .i64 u0, .int .i64 u1, .int .i64 u2, .int .i64 u3] w6 := B3_5.kept k6 (by omega)
      have B4_6 : Arr w4.heap.size [.int .i64 a0, .int .i64 a1, .int .i64 a2, .int .i64 a3] w6 := B4_5.kept k6 (by omega)
      have B6_6 : Arr (w4.heap.size + 1 + 1) [.int .i64 0, .int .i64 0, .int .i64 0, .int .i64 0] w6 := B6_5.kept k6 (by omega)
      have z6 := B6_6.lies
      clear hHeld
      refine hK.out _ _ ⟨B4_6, B3_6⟩ (fun hHeld => ?_)
      clear hK K K5 B0_5 B1_5 B2_5 B3_5 B4_5 B5_5 B6_5 k6
      refine call_at (i := 7) (by kernel_rfl) rfl (fun K hK => ?_)
      have c8_B6_0 : w6.cell? ⟨w4.heap.size + 1 + 1, 0, none⟩ = some (.int .i64 0) := B6_6.c 0 (of_decide_eq_true rfl)
      have c8_B6_1 : w6.cell? ⟨w4.heap.size + 1 + 1, 1, none⟩ = some (.int .i64 0) := B6_6.c 1 (of_decide_eq_true rfl)
      have c8_B6_2 : w6.cell? ⟨w4.heap.size + 1 + 1, 2, none⟩ = some (.int .i64 0) := B6_6.c 2 (of_decide_eq_true rfl)
      have c8_B6_3 : w6.cell? ⟨w4.heap.size + 1 + 1, 3, none⟩ = some (.int .i64 0) := B6_6.c 3 (of_decide_eq_true rfl)
      have g8_B6_0 := B6_6.f 0 (of_decide_eq_true rfl)
      have g8_B6_1 := B6_6.f 1 (of_decide_eq_true rfl)
      have g8_B6_2 := B6_6.f 2 (of_decide_eq_true rfl)
      have g8_B6_3 := B6_6.f 3 (of_decide_eq_true rfl)
      go_simp
      clear hHeld
      refine hK.out _ _ ⟨((((B4_6.new (w4.heap.size + 1 + 1) 0 (by omega) (.int .i64 o0)).new (w4.heap.size + 1 + 1) 1 (by omega) (.int .i64 o1)).new (w4.heap.size + 1 + 1) 2 (by omega) (.int .i64 o2)).new (w4.heap.size + 1 + 1) 3 (by omega) (.int .i64 o3)), ((((B3_6.new (w4.heap.size + 1 + 1) 0 (by omega) (.int .i64 o0)).new (w4.heap.size + 1 + 1) 1 (by omega) (.int .i64 o1)).new (w4.heap.size + 1 + 1) 2 (by omega) (.int .i64 o2)).new (w4.heap.size + 1 + 1) 3 (by omega) (.int .i64 o3))⟩ (fun hHeld => ?_)
      clear hK K c8_B6_0 c8_B6_1 c8_B6_2 c8_B6_3 g8_B6_0 g8_B6_1 g8_B6_2 g8_B6_3
      refine wpAnyH_done (by kernel_rfl) ?_ _
      clear hHeld
      exact cont1 _ _ _ _ _ _ _ _ _ _ _ _ _ _ _ _ _ _ _ _ _ _ (w4.heap.size + 1) (w4.heap.size + 1 + 1) (bel_new (bel_new (bel_new (bel_new K6 _ _ (by omega) _) _ _ (by omega) _) _ _ (by omega) _) _ _ (by omega) _) ((((B0_6.new (w4.heap.size + 1 + 1) 0 (by omega) (.int .i64 o0)).new (w4.heap.size + 1 + 1) 1 (by omega) (.int .i64 o1)).new (w4.heap.size + 1 + 1) 2 (by omega) (.int .i64 o2)).new (w4.heap.size + 1 + 1) 3 (by omega) (.int .i64 o3)) ((((B1_6.new (w4.heap.size + 1 + 1) 0 (by omega) (.int .i64 o0)).new (w4.heap.size + 1 + 1) 1 (by omega) (.int .i64 o1)).new (w4.heap.size + 1 + 1) 2 (by omega) (.int .i64 o2)).new (w4.heap.size + 1 + 1) 3 (by omega) (.int .i64 o3)) ((((B2_6.new (w4.heap.size + 1 + 1) 0 (by omega) (.int .i64 o0)).new (w4.heap.size + 1 + 1) 1 (by omega) (.int .i64 o1)).new (w4.heap.size + 1 + 1) 2 (by omega) (.int .i64 o2)).new (w4.heap.size + 1 + 1) 3 (by omega) (.int .i64 o3)) ((((B3_6.new (w4.heap.size + 1 + 1) 0 (by omega) (.int .i64 o0)).new (w4.heap.size + 1 + 1) 1 (by omega) (.int .i64 o1)).new (w4.heap.size + 1 + 1) 2 (by omega) (.int .i64 o2)).new (w4.heap.size + 1 + 1) 3 (by omega) (.int .i64 o3)) ((((B4_6.new (w4.heap.size + 1 + 1) 0 (by omega) (.int .i64 o0)).new (w4.heap.size + 1 + 1) 1 (by omega) (.int .i64 o1)).new (w4.heap.size + 1 + 1) 2 (by omega) (.int .i64 o2)).new (w4.heap.size + 1 + 1) 3 (by omega) (.int .i64 o3)) ((((f6.new (w4.heap.size + 1 + 1) 0 (by omega) (.int .i64 o0)).new (w4.heap.size + 1 + 1) 1 (by omega) (.int .i64 o1)).new (w4.heap.size + 1 + 1) 2 (by omega) (.int .i64 o2)).new (w4.heap.size + 1 + 1) 3 (by omega) (.int .i64 o3)) ((((B6_6.put 0 (of_decide_eq_true rfl) (.int .i64 o0) [.int .i64 o0, .int .i64 0, .int .i64 0, .int .i64 0] rfl).put 1 (of_decide_eq_true rfl) (.int .i64 o1) [.int .i64 o0, .int .i64 o1, .int .i64 0, .int .i64 0] rfl).put 2 (of_decide_eq_true rfl) (.int .i64 o2) [.int .i64 o0, .int .i64 o1, .int .i64 o2, .int .i64 0] rfl).put 3 (of_decide_eq_true rfl) (.int .i64 o3) [.int .i64 o0, .int .i64 o1, .int .i64 o2, .int .i64 o3] rfl) (by omega) (by omega) (by omega) (by omega) (by omega) (by omega) (by omega) (by omega) (by omega) (by omega) (by omega) (by omega) (by omega)
  · go_simp
    refine (yBack_any (u0, u1, u2, u3) _).mono ?_
    rintro e w5 ⟨rfl, k5⟩
    rw [hb]
    try dsimp only
    have K5 : Below w.heap.size w w5 := bel_then (Below.drew (bel_al K4 _)) k5
    have B0_5 : Arr w.heap.size [.int .i64 q.1, .int .i64 q.2.1, .int .i64 q.2.2.1, .int .i64 q.2.2.2] w5 := (B0_4.alloc _).drew.below k5
    have B1_5 : Arr (w.heap.size + 1) [.int .i64 p.1, .int .i64 p.2.1, .int .i64 p.2.2] w5 := (B1_4.alloc _).drew.below k5
    have B2_5 : Fl w1.heap.size false w5 := (f4.alloc _).drew.below k5
    have B3_5 : Arr w2.heap.size [.int .i64 u0, .int .i64 u1, .int .i64 u2, .int .i64 u3] w5 := (B3_4.alloc _).drew.below k5
    have B4_5 : Arr w4.heap.size [.int .i64 a0, .int .i64 a1, .int .i64 a2, .int .i64 a3] w5 := (Arr_at _ _ [.int .i64 a0, .int .i64 a1, .int .i64 a2, .int .i64 a3] _ (by simp)).drew.below k5
    have z5 := B4_5.lies
    clear hHeld
    refine hK.out _ _ ⟨B4_5, B3_5⟩ (fun hHeld => ?_)
    clear hK K K4 B0_4 B1_4 f4 B3_4 k5
    refine call_at2 (i0 := 1) (i1 := 6) (by kernel_rfl) rfl rfl (fun K hK => ?_) (fun K hK => ?_)
    · go_simp
      clear hHeld
      refine hK.out _ _ ⟨(B4_5.alloc _), (B3_5.alloc _)⟩ (fun hHeld => ?_)
      clear hK K
      refine call_at2 (i0 := 5) (i1 := 6) (by kernel_rfl) rfl rfl (fun K hK => ?_) (fun K hK => ?_)
      · go_simp
        refine (yMul_any w5.heap.size false (a0, a1, a2, a3) ((-u0), (-u1), (-u2), u3) _ (Fl_at _ _ _ _ (by simp))).mono ?_
        rintro e w6 ⟨rfl, f6, k6⟩
        rw [hd] at f6 ⊢
        dsimp only at f6 ⊢
        have K6 : Below w.heap.size w w6 := k6.on (bel_al K5 _) (by omega)
        have B0_6 : Arr w.heap.size [.int .i64 q.1, .int .i64 q.2.1, .int .i64 q.2.2.1, .int .i64 q.2.2.2] w6 := (B0_5.alloc _).kept k6 (by omega)
        have B1_6 : Arr (w.heap.size + 1) [.int .i64 p.1, .int .i64 p.2.1, .int .i64 p.2.2] w6 := (B1_5.alloc _).kept k6 (by omega)
        have B2_6 : Fl w1.heap.size false w6 := (B2_5.alloc _).kept k6 (by omega)
        have B3_6 : Arr w2.heap.size [.int .i64 u0, .int .i64 u1, .int .i64 u2, .int .i64 u3] w6 := (B3_5.alloc _).kept k6 (by omega)
        have B4_6 : Arr w4.heap.size [.int .i64 a0, .int .i64 a1, .int .i64 a2, .int .i64 a3] w6 := (B4_5.alloc _).kept k6 (by omega)
        have z6 := f6.lies
        clear hHeld
        refine hK.out _ _ ⟨B4_6, B3_6⟩ (fun hHeld => ?_)
        clear hK K K5 B0_5 B1_5 B2_5 B3_5 B4_5 k6
        refine call_at (i := 6) (by kernel_rfl) rfl (fun K hK => ?_)
        go_simp
        clear hHeld
        refine hK.out _ _ ⟨(B4_6.alloc _), (B3_6.alloc _)⟩ (fun hHeld => ?_)
        clear hK K
        refine call_at (i := 7) (by kernel_rfl) rfl (fun K hK => ?_)
        go_simp
        clear hHeld
        refine hK.out _ _ ⟨(B4_6.alloc _), (B3_6.alloc _)⟩ (fun hHeld => ?_)
        clear hK K
        refine wpAnyH_done (by kernel_rfl) ?_ _
        clear hHeld
        exact cont1 _ _ _ _ _ _ _ _ _ _ _ _ _ _ _ _ _ _ _ _ _ _ w5.heap.size w6.heap.size (bel_al K6 _) (B0_6.alloc _) (B1_6.alloc _) (B2_6.alloc _) (B3_6.alloc _) (B4_6.alloc _) (f6.alloc _) (Arr_at _ _ [.int .i64 o0, .int .i64 o1, .int .i64 o2, .int .i64 o3] _ (by simp)) (by omega) (by omega) (by omega) (by omega) (by omega) (by omega) (by omega) (by omega) (by omega) (by omega) (by omega) (by omega) (by omega)
      · go_simp
        clear hHeld
        refine hK.out _ _ ⟨((B4_5.alloc _).alloc _), ((B3_5.alloc _).alloc _)⟩ (fun hHeld => ?_)
        clear hK K
        refine call_at (i := 5) (by kernel_rfl) rfl (fun K hK => ?_)
        go_simp
        refine (yMul_any w5.heap.size false (a0, a1, a2, a3) ((-u0), (-u1), (-u2), u3) _ ((Fl_at _ _ _ _ (by simp)).alloc _)).mono ?_
        rintro e w6 ⟨rfl, f6, k6⟩
        rw [hd] at f6 ⊢
        dsimp only at f6 ⊢
        have K6 : Below w.heap.size w w6 := k6.on (bel_al (bel_al K5 _) _) (by omega)
        have B0_6 : Arr w.heap.size [.int .i64 q.1, .int .i64 q.2.1, .int .i64 q.2.2.1, .int .i64 q.2.2.2] w6 := ((B0_5.alloc _).alloc _).kept k6 (by omega)
        have B1_6 : Arr (w.heap.size + 1) [.int .i64 p.1, .int .i64 p.2.1, .int .i64 p.2.2] w6 := ((B1_5.alloc _).alloc _).kept k6 (by omega)
        have B2_6 : Fl w1.heap.size false w6 := ((B2_5.alloc _).alloc _).kept k6 (by omega)
        have B3_6 : Arr w2.heap.size [.int .i64 u0, .int .i64 u1, .int .i64 u2, .int .i64 u3] w6 := ((B3_5.alloc _).alloc _).kept k6 (by omega)
        have B4_6 : Arr w4.heap.size [.int .i64 a0, .int .i64 a1, .int .i64 a2, .int .i64 a3] w6 := ((B4_5.alloc _).alloc _).kept k6 (by omega)
        have B6_6 : Arr (w5.heap.size + 1) [.int .i64 0, .int .i64 0, .int .i64 0, .int .i64 0] w6 := (Arr_at _ _ [.int .i64 0, .int .i64 0, .int .i64 0, .int .i64 0] _ (by simp)).kept k6 (by omega)
        have z6 := B6_6.lies
        clear hHeld
        refine hK.out _ _ ⟨B4_6, B3_6⟩ (fun hHeld => ?_)
        clear hK K K5 B0_5 B1_5 B2_5 B3_5 B4_5 k6
        refine call_at (i := 7) (by kernel_rfl) rfl (fun K hK => ?_)
        have c8_B6_0 : w6.cell? ⟨w5.heap.size + 1, 0, none⟩ = some (.int .i64 0) := B6_6.c 0 (of_decide_eq_true rfl)
        have c8_B6_1 : w6.cell? ⟨w5.heap.size + 1, 1, none⟩ = some (.int .i64 0) := B6_6.c 1 (of_decide_eq_true rfl)
        have c8_B6_2 : w6.cell? ⟨w5.heap.size + 1, 2, none⟩ = some (.int .i64 0) := B6_6.c 2 (of_decide_eq_true rfl)
        have c8_B6_3 : w6.cell? ⟨w5.heap.size + 1, 3, none⟩ = some (.int .i64 0) := B6_6.c 3 (of_decide_eq_true rfl)
        have g8_B6_0 := B6_6.f 0 (of_decide_eq_true rfl)
        have g8_B6_1 := B6_6.f 1 (of_decide_eq_true rfl)
        have g8_B6_2 := B6_6.f 2 (of_decide_eq_true rfl)
        have g8_B6_3 := B6_6.f 3 (of_decide_eq_true rfl)
        go_simp
        clear hHeld
        refine hK.out _ _ ⟨((((B4_6.new (w5.heap.size + 1) 0 (by omega) (.int .i64 o0)).new (w5.heap.size + 1) 1 (by omega) (.int .i64 o1)).new (w5.heap.size + 1) 2 (by omega) (.int .i64 o2)).new (w5.heap.size + 1) 3 (by omega) (.int .i64 o3)), ((((B3_6.new (w5.heap.size + 1) 0 (by omega) (.int .i64 o0)).new (w5.heap.size + 1) 1 (by omega) (.int .i64 o1)).new (w5.heap.size + 1) 2 (by omega) (.int .i64 o2)).new (w5.heap.size + 1) 3 (by omega) (.int .i64 o3))⟩ (fun hHeld => ?_)
        clear hK K c8_B6_0 c8_B6_1 c8_B6_2 c8_B6_3 g8_B6_0 g8_B6_1 g8_B6_2 g8_B6_3
        refine wpAnyH_done (by kernel_rfl) ?_ _
        clear hHeld
        exact cont1 _ _ _ _ _ _ _ _ _ _ _ _ _ _ _ _ _ _ _ _ _ _ w5.heap.size (w5.heap.size + 1) (bel_new (bel_new (bel_new (bel_new K6 _ _ (by omega) _) _ _ (by omega) _) _ _ (by omega) _) _ _ (by omega) _) ((((B0_6.new (w5.heap.size + 1) 0 (by omega) (.int .i64 o0)).new (w5.heap.size + 1) 1 (by omega) (.int .i64 o1)).new (w5.heap.size + 1) 2 (by omega) (.int .i64 o2)).new (w5.heap.size + 1) 3 (by omega) (.int .i64 o3)) ((((B1_6.new (w5.heap.size + 1) 0 (by omega) (.int .i64 o0)).new (w5.heap.size + 1) 1 (by omega) (.int .i64 o1)).new (w5.heap.size + 1) 2 (by omega) (.int .i64 o2)).new (w5.heap.size + 1) 3 (by omega) (.int .i64 o3)) ((((B2_6.new (w5.heap.size + 1) 0 (by omega) (.int .i64 o0)).new (w5.heap.size + 1) 1 (by omega) (.int .i64 o1)).new (w5.heap.size + 1) 2 (by omega) (.int .i64 o2)).new (w5.heap.size + 1) 3 (by omega) (.int .i64 o3)) ((((B3_6.new (w5.heap.size + 1) 0 (by omega) (.int .i64 o0)).new (w5.heap.size + 1) 1 (by omega) (.int .i64 o1)).new (w5.heap.size + 1) 2 (by omega) (.int .i64 o2)).new (w5.heap.size + 1) 3 (by omega) (.int .i64 o3)) ((((B4_6.new (w5.heap.size + 1) 0 (by omega) (.int .i64 o0)).new (w5.heap.size + 1) 1 (by omega) (.int .i64 o1)).new (w5.heap.size + 1) 2 (by omega) (.int .i64 o2)).new (w5.heap.size + 1) 3 (by omega) (.int .i64 o3)) ((((f6.new (w5.heap.size + 1) 0 (by omega) (.int .i64 o0)).new (w5.heap.size + 1) 1 (by omega) (.int .i64 o1)).new (w5.heap.size + 1) 2 (by omega) (.int .i64 o2)).new (w5.heap.size + 1) 3 (by omega) (.int .i64 o3)) ((((B6_6.put 0 (of_decide_eq_true rfl) (.int .i64 o0) [.int .i64 o0, .int .i64 0, .int .i64 0, .int .i64 0] rfl).put 1 (of_decide_eq_true rfl) (.int .i64 o1) [.int .i64 o0, .int .i64 o1, .int .i64 0, .int .i64 0] rfl).put 2 (of_decide_eq_true rfl) (.int .i64 o2) [.int .i64 o0, .int .i64 o1, .int .i64 o2, .int .i64 0] rfl).put 3 (of_decide_eq_true rfl) (.int .i64 o3) [.int .i64 o0, .int .i64 o1, .int .i64 o2, .int .i64 o3] rfl) (by omega) (by omega) (by omega) (by omega) (by omega) (by omega) (by omega) (by omega) (by omega) (by omega) (by omega) (by omega) (by omega)
    · go_simp
      clear hHeld
      refine hK.out _ _ ⟨(B4_5.alloc _), (B3_5.alloc _)⟩ (fun hHeld => ?_)
      clear hK K
      refine call_at (i := 1) (by kernel_rfl) rfl (fun K hK => ?_)
      go_simp
      clear hHeld
      refine hK.out _ _ ⟨((B4_5.alloc _).alloc _), ((B3_5.alloc _).alloc _)⟩ (fun hHeld => ?_)
      clear hK K
      refine call_at (i := 5) (by kernel_rfl) rfl (fun K hK => ?_)
      go_simp
      refine (yMul_any (w5.heap.size + 1) false (a0, a1, a2, a3) ((-u0), (-u1), (-u2), u3) _ (Fl_at _ _ _ _ (by simp))).mono ?_
      rintro e w6 ⟨rfl, f6, k6⟩
      rw [hd] at f6 ⊢
      dsimp only at f6 ⊢
      have K6 : Below w.heap.size w w6 := k6.on (bel_al (bel_al K5 _) _) (by omega)
      have B0_6 : Arr w.heap.size [.int .i64 q.1, .int .i64 q.2.1, .int .i64 q.2.2.1, .int .i64 q.2.2.2] w6 := ((B0_5.alloc _).alloc _).kept k6 (by omega)
      have B1_6 : Arr (w.heap.size + 1) [.int .i64 p.1, .int .i64 p.2.1, .int .i64 p.2.2] w6 := ((B1_5.alloc _).alloc _).kept k6 (by omega)
      have B2_6 : Fl w1.heap.size false w6 := ((B2_5.alloc _).alloc _).kept k6 (by omega)
      have B3_6 : Arr w2.heap.size [.int .i64 u0, .int .i64 u1, .int .i64 u2, .int .i64 u3] w6 := ((B3_5.alloc _).alloc _).kept k6 (by omega)
      have B4_6 : Arr w4.heap.size [.int .i64 a0, .int .i64 a1, .int .i64 a2, .int .i64 a3] w6 := ((B4_5.alloc _).alloc _).kept k6 (by omega)
      have B5_6 : Arr w5.heap.size [.int .i64 0, .int .i64 0, .int .i64 0, .int .i64 0] w6 := ((Arr_at _ _ [.int .i64 0, .int .i64 0, .int .i64 0, .int .i64 0] _ (by simp)).alloc _).kept k6 (by omega)
      have z6 := f6.lies
      clear hHeld
      refine hK.out _ _ ⟨B4_6, B3_6⟩ (fun hHeld => ?_)
      clear hK K K5 B0_5 B1_5 B2_5 B3_5 B4_5 k6
      refine call_at (i := 7) (by kernel_rfl) rfl (fun K hK => ?_)
      have c8_B5_0 : w6.cell? ⟨w5.heap.size, 0, none⟩ = some (.int .i64 0) := B5_6.c 0 (of_decide_eq_true rfl)
      have c8_B5_1 : w6.cell? ⟨w5.heap.size, 1, none⟩ = some (.int .i64 0) := B5_6.c 1 (of_decide_eq_true rfl)
      have c8_B5_2 : w6.cell? ⟨w5.heap.size, 2, none⟩ = some (.int .i64 0) := B5_6.c 2 (of_decide_eq_true rfl)
      have c8_B5_3 : w6.cell? ⟨w5.heap.size, 3, none⟩ = some (.int .i64 0) := B5_6.c 3 (of_decide_eq_true rfl)
      have g8_B5_0 := B5_6.f 0 (of_decide_eq_true rfl)
      have g8_B5_1 := B5_6.f 1 (of_decide_eq_true rfl)
      have g8_B5_2 := B5_6.f 2 (of_decide_eq_true rfl)
      have g8_B5_3 := B5_6.f 3 (of_decide_eq_true rfl)
      go_simp
      clear hHeld
      refine hK.out _ _ ⟨((((B4_6.new w5.heap.size 0 (by omega) (.int .i64 o0)).new w5.heap.size 1 (by omega) (.int .i64 o1)).new w5.heap.size 2 (by omega) (.int .i64 o2)).new w5.heap.size 3 (by omega) (.int .i64 o3)), ((((B3_6.new w5.heap.size 0 (by omega) (.int .i64 o0)).new w5.heap.size 1 (by omega) (.int .i64 o1)).new w5.heap.size 2 (by omega) (.int .i64 o2)).new w5.heap.size 3 (by omega) (.int .i64 o3))⟩ (fun hHeld => ?_)
      clear hK K c8_B5_0 c8_B5_1 c8_B5_2 c8_B5_3 g8_B5_0 g8_B5_1 g8_B5_2 g8_B5_3
      refine wpAnyH_done (by kernel_rfl) ?_ _
      clear hHeld
      exact cont1 _ _ _ _ _ _ _ _ _ _ _ _ _ _ _ _ _ _ _ _ _ _ (w5.heap.size + 1) w5.heap.size (bel_new (bel_new (bel_new (bel_new K6 _ _ (by omega) _) _ _ (by omega) _) _ _ (by omega) _) _ _ (by omega) _) ((((B0_6.new w5.heap.size 0 (by omega) (.int .i64 o0)).new w5.heap.size 1 (by omega) (.int .i64 o1)).new w5.heap.size 2 (by omega) (.int .i64 o2)).new w5.heap.size 3 (by omega) (.int .i64 o3)) ((((B1_6.new w5.heap.size 0 (by omega) (.int .i64 o0)).new w5.heap.size 1 (by omega) (.int .i64 o1)).new w5.heap.size 2 (by omega) (.int .i64 o2)).new w5.heap.size 3 (by omega) (.int .i64 o3)) ((((B2_6.new w5.heap.size 0 (by omega) (.int .i64 o0)).new w5.heap.size 1 (by omega) (.int .i64 o1)).new w5.heap.size 2 (by omega) (.int .i64 o2)).new w5.heap.size 3 (by omega) (.int .i64 o3)) ((((B3_6.new w5.heap.size 0 (by omega) (.int .i64 o0)).new w5.heap.size 1 (by omega) (.int .i64 o1)).new w5.heap.size 2 (by omega) (.int .i64 o2)).new w5.heap.size 3 (by omega) (.int .i64 o3)) ((((B4_6.new w5.heap.size 0 (by omega) (.int .i64 o0)).new w5.heap.size 1 (by omega) (.int .i64 o1)).new w5.heap.size 2 (by omega) (.int .i64 o2)).new w5.heap.size 3 (by omega) (.int .i64 o3)) ((((f6.new w5.heap.size 0 (by omega) (.int .i64 o0)).new w5.heap.size 1 (by omega) (.int .i64 o1)).new w5.heap.size 2 (by omega) (.int .i64 o2)).new w5.heap.size 3 (by omega) (.int .i64 o3)) ((((B5_6.put 0 (of_decide_eq_true rfl) (.int .i64 o0) [.int .i64 o0, .int .i64 0, .int .i64 0, .int .i64 0] rfl).put 1 (of_decide_eq_true rfl) (.int .i64 o1) [.int .i64 o0, .int .i64 o1, .int .i64 0, .int .i64 0] rfl).put 2 (of_decide_eq_true rfl) (.int .i64 o2) [.int .i64 o0, .int .i64 o1, .int .i64 o2, .int .i64 0] rfl).put 3 (of_decide_eq_true rfl) (.int .i64 o3) [.int .i64 o0, .int .i64 o1, .int .i64 o2, .int .i64 o3] rfl) (by omega) (by omega) (by omega) (by omega) (by omega) (by omega) (by omega) (by omega) (by omega) (by omega) (by omega) (by omega) (by omega)
  · go_simp
    clear hHeld
    refine hK.out _ _ ⟨((Arr_at _ _ [.int .i64 a0, .int .i64 a1, .int .i64 a2, .int .i64 a3] _ (by simp)).alloc _).drew, ((B3_4.alloc _).alloc _).drew⟩ (fun hHeld => ?_)
    clear hK K
    refine call_at2 (i0 := 1) (i1 := 4) (by kernel_rfl) rfl rfl (fun K hK => ?_) (fun K hK => ?_)
    · go_simp
      clear hHeld
      refine hK.out _ _ ⟨(((Arr_at _ _ [.int .i64 a0, .int .i64 a1, .int .i64 a2, .int .i64 a3] _ (by simp)).alloc _).alloc _).drew, (((B3_4.alloc _).alloc _).alloc _).drew⟩ (fun hHeld => ?_)
      clear hK K
      refine call_at (i := 4) (by kernel_rfl) rfl (fun K hK => ?_)
      go_simp
      refine (yBack_any (u0, u1, u2, u3) _).mono ?_
      rintro e w5 ⟨rfl, k5⟩
      rw [hb]
      try dsimp only
      have K5 : Below w.heap.size w w5 := bel_then (Below.drew (bel_al (bel_al (bel_al K4 _) _) _)) k5
      have B0_5 : Arr w.heap.size [.int .i64 q.1, .int .i64 q.2.1, .int .i64 q.2.2.1, .int .i64 q.2.2.2] w5 := (((B0_4.alloc _).alloc _).alloc _).drew.below k5
      have B1_5 : Arr (w.heap.size + 1) [.int .i64 p.1, .int .i64 p.2.1, .int .i64 p.2.2] w5 := (((B1_4.alloc _).alloc _).alloc _).drew.below k5
      have B2_5 : Fl w1.heap.size false w5 := (((f4.alloc _).alloc _).alloc _).drew.below k5
      have B3_5 : Arr w2.heap.size [.int .i64 u0, .int .i64 u1, .int .i64 u2, .int .i64 u3] w5 := (((B3_4.alloc _).alloc _).alloc _).drew.below k5
      have B4_5 : Arr w4.heap.size [.int .i64 a0, .int .i64 a1, .int .i64 a2, .int .i64 a3] w5 := (((Arr_at _ _ [.int .i64 a0, .int .i64 a1, .int .i64 a2, .int .i64 a3] _ (by simp)).alloc _).alloc _).drew.below k5
      have B5_5 : Arr (w4.heap.size + 1) [.int .i64 0, .int .i64 0, .int .i64 0, .int .i64 0] w5 := ((Arr_at _ _ [.int .i64 0, .int .i64 0, .int .i64 0, .int .i64 0] _ (by simp)).alloc _).drew.below k5
      have B6_5 : Fl (w4.heap.size + 1 + 1) false w5 := (Fl_at _ _ _ _ (by simp)).drew.below k5
      have z5 := B6_5.lies
      clear hHeld
      refine hK.out _ _ ⟨B4_5, B3_5⟩ (fun hHeld => ?_)
      clear hK K K4 B0_4 B1_4 f4 B3_4 k5
      refine call_at (i := 5) (by kernel_rfl) rfl (fun K hK => ?_)
      go_simp
      refine (yMul_any (w4.heap.size + 1 + 1) false (a0, a1, a2, a3) ((-u0), (-u1), (-u2), u3) _ B6_5).mono ?_
      rintro e w6 ⟨rfl, f6, k6⟩
      rw [hd] at f6 ⊢
      dsimp only at f6 ⊢
      have K6 : Below w.heap.size w w6 := k6.on K5 (by omega)
      have B0_6 : Arr w.heap.size [.int .i64 q.1, .int .i64 q.2.1, .int .i64 q.2.2.1, .int .i64 q.2.2.2] w6 := B0_5.kept k6 (by omega)
      have B1_6 : Arr (w.heap.size + 1) [.int .i64 p.1, .int .i64 p.2.1, .int .i64 p.2.2] w6 := B1_5.kept k6 (by omega)
      have B2_6 : Fl w1.heap.size false w6 := B2_5.kept k6 (by omega)
      have B3_6 : Arr w2.heap.size [.int .i64 u0, .int .i64 u1, .int .i64 u2, .int .i64 u3] w6 := B3_5.kept k6 (by omega)
      have B4_6 : Arr w4.heap.size [.int .i64 a0, .int .i64 a1, .int .i64 a2, .int .i64 a3] w6 := B4_5.kept k6 (by omega)
      have B5_6 : Arr (w4.heap.size + 1) [.int .i64 0, .int .i64 0, .int .i64 0, .int .i64 0] w6 := B5_5.kept k6 (by omega)
      have z6 := f6.lies
      clear hHeld
      refine hK.out _ _ ⟨B4_6, B3_6⟩ (fun hHeld => ?_)
      clear hK K K5 B0_5 B1_5 B2_5 B3_5 B4_5 B5_5 B6_5 k6
      refine call_at (i := 7) (by kernel_rfl) rfl (fun K hK => ?_)
      have c8_B5_0 : w6.cell? ⟨w4.heap.size + 1, 0, none⟩ = some (.int .i64 0) := B5_6.c 0 (of_decide_eq_true rfl)
      have c8_B5_1 : w6.cell? ⟨w4.heap.size + 1, 1, none⟩ = some (.int .i64 0) := B5_6.c 1 (of_decide_eq_true rfl)
      have c8_B5_2 : w6.cell? ⟨w4.heap.size + 1, 2, none⟩ = some (.int .i64 0) := B5_6.c 2 (of_decide_eq_true rfl)
      have c8_B5_3 : w6.cell? ⟨w4.heap.size + 1, 3, none⟩ = some (.int .i64 0) := B5_6.c 3 (of_decide_eq_true rfl)
      have g8_B5_0 := B5_6.f 0 (of_decide_eq_true rfl)
      have g8_B5_1 := B5_6.f 1 (of_decide_eq_true rfl)
      have g8_B5_2 := B5_6.f 2 (of_decide_eq_true rfl)
      have g8_B5_3 := B5_6.f 3 (of_decide_eq_true rfl)
      go_simp
      clear hHeld
      refine hK.out _ _ ⟨((((B4_6.new (w4.heap.size + 1) 0 (by omega) (.int .i64 o0)).new (w4.heap.size + 1) 1 (by omega) (.int .i64 o1)).new (w4.heap.size + 1) 2 (by omega) (.int .i64 o2)).new (w4.heap.size + 1) 3 (by omega) (.int .i64 o3)), ((((B3_6.new (w4.heap.size + 1) 0 (by omega) (.int .i64 o0)).new (w4.heap.size + 1) 1 (by omega) (.int .i64 o1)).new (w4.heap.size + 1) 2 (by omega) (.int .i64 o2)).new (w4.heap.size + 1) 3 (by omega) (.int .i64 o3))⟩ (fun hHeld => ?_)
      clear hK K c8_B5_0 c8_B5_1 c8_B5_2 c8_B5_3 g8_B5_0 g8_B5_1 g8_B5_2 g8_B5_3
      refine wpAnyH_done (by kernel_rfl) ?_ _
      clear hHeld
      exact cont1 _ _ _ _ _ _ _ _ _ _ _ _ _ _ _ _ _ _ _ _ _ _ (w4.heap.size + 1 + 1) (w4.heap.size + 1) (bel_new (bel_new (bel_new (bel_new K6 _ _ (by omega) _) _ _ (by omega) _) _ _ (by omega) _) _ _ (by omega) _) ((((B0_6.new (w4.heap.size + 1) 0 (by omega) (.int .i64 o0)).new (w4.heap.size + 1) 1 (by omega) (.int .i64 o1)).new (w4.heap.size + 1) 2 (by omega) (.int .i64 o2)).new (w4.heap.size + 1) 3 (by omega) (.int .i64 o3)) ((((B1_6.new (w4.heap.size + 1) 0 (by omega) (.int .i64 o0)).new (w4.heap.size + 1) 1 (by omega) (.int .i64 o1)).new (w4.heap.size + 1) 2 (by omega) (.int .i64 o2)).new (w4.heap.size + 1) 3 (by omega) (.int .i64 o3)) ((((B2_6.new (w4.heap.size + 1) 0 (by omega) (.int .i64 o0)).new (w4.heap.size + 1) 1 (by omega) (.int .i64 o1)).new (w4.heap.size + 1) 2 (by omega) (.int .i64 o2)).new (w4.heap.size + 1) 3 (by omega) (.int .i64 o3)) ((((B3_6.new (w4.heap.size + 1) 0 (by omega) (.int .i64 o0)).new (w4.heap.size + 1) 1 (by omega) (.int .i64 o1)).new (w4.heap.size + 1) 2 (by omega) (.int .i64 o2)).new (w4.heap.size + 1) 3 (by omega) (.int .i64 o3)) ((((B4_6.new (w4.heap.size + 1) 0 (by omega) (.int .i64 o0)).new (w4.heap.size + 1) 1 (by omega) (.int .i64 o1)).new (w4.heap.size + 1) 2 (by omega) (.int .i64 o2)).new (w4.heap.size + 1) 3 (by omega) (.int .i64 o3)) ((((f6.new (w4.heap.size + 1) 0 (by omega) (.int .i64 o0)).new (w4.heap.size + 1) 1 (by omega) (.int .i64 o1)).new (w4.heap.size + 1) 2 (by omega) (.int .i64 o2)).new (w4.heap.size + 1) 3 (by omega) (.int .i64 o3)) ((((B5_6.put 0 (of_decide_eq_true rfl) (.int .i64 o0) [.int .i64 o0, .int .i64 0, .int .i64 0, .int .i64 0] rfl).put 1 (of_decide_eq_true rfl) (.int .i64 o1) [.int .i64 o0, .int .i64 o1, .int .i64 0, .int .i64 0] rfl).put 2 (of_decide_eq_true rfl) (.int .i64 o2) [.int .i64 o0, .int .i64 o1, .int .i64 o2, .int .i64 0] rfl).put 3 (of_decide_eq_true rfl) (.int .i64 o3) [.int .i64 o0, .int .i64 o1, .int .i64 o2, .int .i64 o3] rfl) (by omega) (by omega) (by omega) (by omega) (by omega) (by omega) (by omega) (by omega) (by omega) (by omega) (by omega) (by omega) (by omega)
    · go_simp
      refine (yBack_any (u0, u1, u2, u3) _).mono ?_
      rintro e w5 ⟨rfl, k5⟩
      rw [hb]
      try dsimp only
      have K5 : Below w.heap.size w w5 := bel_then (Below.drew (bel_al (bel_al K4 _) _)) k5
      have B0_5 : Arr w.heap.size [.int .i64 q.1, .int .i64 q.2.1, .int .i64 q.2.2.1, .int .i64 q.2.2.2] w5 := ((B0_4.alloc _).alloc _).drew.below k5
      have B1_5 : Arr (w.heap.size + 1) [.int .i64 p.1, .int .i64 p.2.1, .int .i64 p.2.2] w5 := ((B1_4.alloc _).alloc _).drew.below k5
      have B2_5 : Fl w1.heap.size false w5 := ((f4.alloc _).alloc _).drew.below k5
      have B3_5 : Arr w2.heap.size [.int .i64 u0, .int .i64 u1, .int .i64 u2, .int .i64 u3] w5 := ((B3_4.alloc _).alloc _).drew.below k5
      have B4_5 : Arr w4.heap.size [.int .i64 a0, .int .i64 a1, .int .i64 a2, .int .i64 a3] w5 := ((Arr_at _ _ [.int .i64 a0, .int .i64 a1, .int .i64 a2, .int .i64 a3] _ (by simp)).alloc _).drew.below k5
      have B5_5 : Arr (w4.heap.size + 1) [.int .i64 0, .int .i64 0, .int .i64 0, .int .i64 0] w5 := (Arr_at _ _ [.int .i64 0, .int .i64 0, .int .i64 0, .int .i64 0] _ (by simp)).drew.below k5
      have z5 := B5_5.lies
      clear hHeld
      refine hK.out _ _ ⟨B4_5, B3_5⟩ (fun hHeld => ?_)
      clear hK K K4 B0_4 B1_4 f4 B3_4 k5
      refine call_at (i := 1) (by kernel_rfl) rfl (fun K hK => ?_)
      go_simp
      clear hHeld
      refine hK.out _ _ ⟨(B4_5.alloc _), (B3_5.alloc _)⟩ (fun hHeld => ?_)
      clear hK K
      refine call_at (i := 5) (by kernel_rfl) rfl (fun K hK => ?_)
      go_simp
      refine (yMul_any w5.heap.size false (a0, a1, a2, a3) ((-u0), (-u1), (-u2), u3) _ (Fl_at _ _ _ _ (by simp))).mono ?_
      rintro e w6 ⟨rfl, f6, k6⟩
      rw [hd] at f6 ⊢
      dsimp only at f6 ⊢
      have K6 : Below w.heap.size w w6 := k6.on (bel_al K5 _) (by omega)
      have B0_6 : Arr w.heap.size [.int .i64 q.1, .int .i64 q.2.1, .int .i64 q.2.2.1, .int .i64 q.2.2.2] w6 := (B0_5.alloc _).kept k6 (by omega)
      have B1_6 : Arr (w.heap.size + 1) [.int .i64 p.1, .int .i64 p.2.1, .int .i64 p.2.2] w6 := (B1_5.alloc _).kept k6 (by omega)
      have B2_6 : Fl w1.heap.size false w6 := (B2_5.alloc _).kept k6 (by omega)
      have B3_6 : Arr w2.heap.size [.int .i64 u0, .int .i64 u1, .int .i64 u2, .int .i64 u3] w6 := (B3_5.alloc _).kept k6 (by omega)
      have B4_6 : Arr w4.heap.size [.int .i64 a0, .int .i64 a1, .int .i64 a2, .int .i64 a3] w6 := (B4_5.alloc _).kept k6 (by omega)
      have B5_6 : Arr (w4.heap.size + 1) [.int .i64 0, .int .i64 0, .int .i64 0, .int .i64 0] w6 := (B5_5.alloc _).kept k6 (by omega)
      have z6 := f6.lies
      clear hHeld
      refine hK.out _ _ ⟨B4_6, B3_6⟩ (fun hHeld => ?_)
      clear hK K K5 B0_5 B1_5 B2_5 B3_5 B4_5 B5_5 k6
      refine call_at (i := 7) (by kernel_rfl) rfl (fun K hK => ?_)
      have c8_B5_0 : w6.cell? ⟨w4.heap.size + 1, 0, none⟩ = some (.int .i64 0) := B5_6.c 0 (of_decide_eq_true rfl)
      have c8_B5_1 : w6.cell? ⟨w4.heap.size + 1, 1, none⟩ = some (.int .i64 0) := B5_6.c 1 (of_decide_eq_true rfl)
      have c8_B5_2 : w6.cell? ⟨w4.heap.size + 1, 2, none⟩ = some (.int .i64 0) := B5_6.c 2 (of_decide_eq_true rfl)
      have c8_B5_3 : w6.cell? ⟨w4.heap.size + 1, 3, none⟩ = some (.int .i64 0) := B5_6.c 3 (of_decide_eq_true rfl)
      have g8_B5_0 := B5_6.f 0 (of_decide_eq_true rfl)
      have g8_B5_1 := B5_6.f 1 (of_decide_eq_true rfl)
      have g8_B5_2 := B5_6.f 2 (of_decide_eq_true rfl)
      have g8_B5_3 := B5_6.f 3 (of_decide_eq_true rfl)
      go_simp
      clear hHeld
      refine hK.out _ _ ⟨((((B4_6.new (w4.heap.size + 1) 0 (by omega) (.int .i64 o0)).new (w4.heap.size + 1) 1 (by omega) (.int .i64 o1)).new (w4.heap.size + 1) 2 (by omega) (.int .i64 o2)).new (w4.heap.size + 1) 3 (by omega) (.int .i64 o3)), ((((B3_6.new (w4.heap.size + 1) 0 (by omega) (.int .i64 o0)).new (w4.heap.size + 1) 1 (by omega) (.int .i64 o1)).new (w4.heap.size + 1) 2 (by omega) (.int .i64 o2)).new (w4.heap.size + 1) 3 (by omega) (.int .i64 o3))⟩ (fun hHeld => ?_)
      clear hK K c8_B5_0 c8_B5_1 c8_B5_2 c8_B5_3 g8_B5_0 g8_B5_1 g8_B5_2 g8_B5_3
      refine wpAnyH_done (by kernel_rfl) ?_ _
      clear hHeld
      exact cont1 _ _ _ _ _ _ _ _ _ _ _ _ _ _ _ _ _ _ _ _ _ _ w5.heap.size (w4.heap.size + 1) (bel_new (bel_new (bel_new (bel_new K6 _ _ (by omega) _) _ _ (by omega) _) _ _ (by omega) _) _ _ (by omega) _) ((((B0_6.new (w4.heap.size + 1) 0 (by omega) (.int .i64 o0)).new (w4.heap.size + 1) 1 (by omega) (.int .i64 o1)).new (w4.heap.size + 1) 2 (by omega) (.int .i64 o2)).new (w4.heap.size + 1) 3 (by omega) (.int .i64 o3)) ((((B1_6.new (w4.heap.size + 1) 0 (by omega) (.int .i64 o0)).new (w4.heap.size + 1) 1 (by omega) (.int .i64 o1)).new (w4.heap.size + 1) 2 (by omega) (.int .i64 o2)).new (w4.heap.size + 1) 3 (by omega) (.int .i64 o3)) ((((B2_6.new (w4.heap.size + 1) 0 (by omega) (.int .i64 o0)).new (w4.heap.size + 1) 1 (by omega) (.int .i64 o1)).new (w4.heap.size + 1) 2 (by omega) (.int .i64 o2)).new (w4.heap.size + 1) 3 (by omega) (.int .i64 o3)) ((((B3_6.new (w4.heap.size + 1) 0 (by omega) (.int .i64 o0)).new (w4.heap.size + 1) 1 (by omega) (.int .i64 o1)).new (w4.heap.size + 1) 2 (by omega) (.int .i64 o2)).new (w4.heap.size + 1) 3 (by omega) (.int .i64 o3)) ((((B4_6.new (w4.heap.size + 1) 0 (by omega) (.int .i64 o0)).new (w4.heap.size + 1) 1 (by omega) (.int .i64 o1)).new (w4.heap.size + 1) 2 (by omega) (.int .i64 o2)).new (w4.heap.size + 1) 3 (by omega) (.int .i64 o3)) ((((f6.new (w4.heap.size + 1) 0 (by omega) (.int .i64 o0)).new (w4.heap.size + 1) 1 (by omega) (.int .i64 o1)).new (w4.heap.size + 1) 2 (by omega) (.int .i64 o2)).new (w4.heap.size + 1) 3 (by omega) (.int .i64 o3)) ((((B5_6.put 0 (of_decide_eq_true rfl) (.int .i64 o0) [.int .i64 o0, .int .i64 0, .int .i64 0, .int .i64 0] rfl).put 1 (of_decide_eq_true rfl) (.int .i64 o1) [.int .i64 o0, .int .i64 o1, .int .i64 0, .int .i64 0] rfl).put 2 (of_decide_eq_true rfl) (.int .i64 o2) [.int .i64 o0, .int .i64 o1, .int .i64 o2, .int .i64 0] rfl).put 3 (of_decide_eq_true rfl) (.int .i64 o3) [.int .i64 o0, .int .i64 o1, .int .i64 o2, .int .i64 o3] rfl) (by omega) (by omega) (by omega) (by omega) (by omega) (by omega) (by omega) (by omega) (by omega) (by omega) (by omega) (by omega) (by omega)
set_option maxRecDepth 100000 in
set_option maxHeartbeats 4000000 in
theorem QuatThere_gr (q : V4) (p : V3) (w : World) (u0 u1 u2 u3 m0 m1 m2 m3 m4 m5 m6 m7 m8 a0 a1 a2 a3 o0 o1 o2 o3 : Int) (hu : qUnitS false q = ((u0, u1, u2, u3), false)) (hm : qMatrixS false (u0, u1, u2, u3) = ((m0, m1, m2, m3, m4, m5, m6, m7, m8), false)) (hf : qFromMatrixS false (m0, m1, m2, m3, m4, m5, m6, m7, m8) = ((a0, a1, a2, a3), false)) (hb : qBackS (u0, u1, u2, u3) = ((-u0), (-u1), (-u2), u3)) (hd : qMulS false (a0, a1, a2, a3) ((-u0), (-u1), (-u2), u3) = ((o0, o1, o2, o3), false)) (n0 : -1024 ≤ o0 ∧ o0 ≤ 1024) (n1 : -1024 ≤ o1 ∧ o1 ≤ 1024) (n2 : -1024 ≤ o2 ∧ o2 ≤ 1024) (hn : nearS (o0, o1, o2) (0, 0, 0) 1024 = true) (s0 s1 s2 s3 t0 t1 t2 : Int) (v0 : -9223372036854775808 ≤ p.1 ∧ p.1 ≤ 9223372036854775807) (v1 : -9223372036854775808 ≤ p.2.1 ∧ p.2.1 ≤ 9223372036854775807) (v2 : -9223372036854775808 ≤ p.2.2 ∧ p.2.2 ≤ 9223372036854775807) (hp : nearS p (0, 0, 0) 1099511627776 = true) (hr : qFromRodS false p = ((s0, s1, s2, s3), false)) (ht : qToRodS false (s0, s1, s2, s3) = ((t0, t1, t2), false)) (j0 : -1024 ≤ t0 - p.1 ∧ t0 - p.1 ≤ 1024) (j1 : -1024 ≤ t1 - p.2.1 ∧ t1 - p.2.1 ≤ 1024) (j2 : -1024 ≤ t2 - p.2.2 ∧ t2 - p.2.2 ≤ 1024) (hj : nearS (t0, t1, t2) p 1024 = true) :
    Calls Try.prog 4 #[.agg #[.int .i64 q.1, .int .i64 q.2.1, .int .i64 q.2.2.1, .int .i64 q.2.2.2], .agg #[.int .i64 p.1, .int .i64 p.2.1, .int .i64 p.2.2]] w fun e w' => e = .returned (.bool true) ∧ Below w.heap.size w w' := by
  go_enter Try.func4, Try.ntmps4
  go_wp2_with fail
  refine (awake_any  _).mono ?_
  rintro e w1 ⟨rfl, k1⟩
  have K1 : Below w.heap.size w w1 := bel_then (bel_al (bel_al (Below.refl w.heap.size w) _) _) k1
  have B0_1 : Arr w.heap.size [.int .i64 q.1, .int .i64 q.2.1, .int .i64 q.2.2.1, .int .i64 q.2.2.2] w1 := ((Arr_at _ _ [.int .i64 q.1, .int .i64 q.2.1, .int .i64 q.2.2.1, .int .i64 q.2.2.2] _ (by simp)).alloc _).below k1
  have B1_1 : Arr (w.heap.size + 1) [.int .i64 p.1, .int .i64 p.2.1, .int .i64 p.2.2] w1 := (Arr_at _ _ [.int .i64 p.1, .int .i64 p.2.1, .int .i64 p.2.2] _ (by simp)).below k1
  have z1 := B1_1.lies
  clear k1
  have c2_B0_0 : w1.cell? ⟨w.heap.size, 0, none⟩ = some (.int .i64 q.1) := B0_1.c 0 (of_decide_eq_true rfl)
  have c2_B0_1 : w1.cell? ⟨w.heap.size, 1, none⟩ = some (.int .i64 q.2.1) := B0_1.c 1 (of_decide_eq_true rfl)
  have c2_B0_2 : w1.cell? ⟨w.heap.size, 2, none⟩ = some (.int .i64 q.2.2.1) := B0_1.c 2 (of_decide_eq_true rfl)
  have c2_B0_3 : w1.cell? ⟨w.heap.size, 3, none⟩ = some (.int .i64 q.2.2.2) := B0_1.c 3 (of_decide_eq_true rfl)
  have l2_B0 := B0_1.lies
  go_wp2_with fail
  refine (lunit_any q _).mono ?_
  rintro e w2 ⟨rfl, k2⟩
  rw [hu]
  try dsimp only
  have K2 : Below w.heap.size w w2 := bel_then (bel_al K1 _) k2
  have B0_2 : Arr w.heap.size [.int .i64 q.1, .int .i64 q.2.1, .int .i64 q.2.2.1, .int .i64 q.2.2.2] w2 := (B0_1.alloc _).below k2
  have B1_2 : Arr (w.heap.size + 1) [.int .i64 p.1, .int .i64 p.2.1, .int .i64 p.2.2] w2 := (B1_1.alloc _).below k2
  have B2_2 : Fl w1.heap.size false w2 := (Fl_at _ _ _ _ (by simp)).below k2
  have z2 := B2_2.lies
  clear c2_B0_0 c2_B0_1 c2_B0_2 c2_B0_3 l2_B0 K1 B0_1 B1_1 k2
  go_wp2_with fail
  refine (qMatrix_any w1.heap.size false (u0, u1, u2, u3) _ (B2_2.alloc _)).mono ?_
  rintro e w3 ⟨rfl, f3, k3⟩
  rw [hm] at f3 ⊢
  dsimp only at f3 ⊢
  have K3 : Below w.heap.size w w3 := k3.on (bel_al K2 _) (by omega)
  have B0_3 : Arr w.heap.size [.int .i64 q.1, .int .i64 q.2.1, .int .i64 q.2.2.1, .int .i64 q.2.2.2] w3 := (B0_2.alloc _).kept k3 (by omega)
  have B1_3 : Arr (w.heap.size + 1) [.int .i64 p.1, .int .i64 p.2.1, .int .i64 p.2.2] w3 := (B1_2.alloc _).kept k3 (by omega)
  have B3_3 : Arr w2.heap.size [.int .i64 u0, .int .i64 u1, .int .i64 u2, .int .i64 u3] w3 := (Arr_at _ _ [.int .i64 u0, .int .i64 u1, .int .i64 u2, .int .i64 u3] _ (by simp)).kept k3 (by omega)
  have z3 := B3_3.lies
  clear K2 B0_2 B1_2 B2_2 k3
  go_wp2_with fail
  refine (qFromMatrix_any w1.heap.size false (m0, m1, m2, m3, m4, m5, m6, m7, m8) _ f3).mono ?_
  rintro e w4 ⟨rfl, f4, k4⟩
  rw [hf] at f4 ⊢
  dsimp only at f4 ⊢
  have K4 : Below w.heap.size w w4 := k4.on K3 (by omega)
  have B0_4 : Arr w.heap.size [.int .i64 q.1, .int .i64 q.2.1, .int .i64 q.2.2.1, .int .i64 q.2.2.2] w4 := B0_3.kept k4 (by omega)
  have B1_4 : Arr (w.heap.size + 1) [.int .i64 p.1, .int .i64 p.2.1, .int .i64 p.2.2] w4 := B1_3.kept k4 (by omega)
  have B3_4 : Arr w2.heap.size [.int .i64 u0, .int .i64 u1, .int .i64 u2, .int .i64 u3] w4 := B3_3.kept k4 (by omega)
  have z4 := B3_4.lies
  clear K3 B0_3 B1_3 f3 B3_3 k4
  go_wp2_with fail
  rename_i K0 aK0
  have cont1 : ∀ (W1 : World) (t1_11 t1_12 t1_13 t1_14 t1_15 t1_16 t1_17 t1_18 t1_19 t1_20 t1_21 t1_22 t1_23 t1_24 t1_25 t1_26 t1_27 t1_28 t1_29 t1_30 t1_31 : Value) (x1_0 : Nat) (x1_1 : Nat) , Below w.heap.size w W1 → Arr w.heap.size [.int .i64 q.1, .int .i64 q.2.1, .int .i64 q.2.2.1, .int .i64 q.2.2.2] W1 → Arr (w.heap.size + 1) [.int .i64 p.1, .int .i64 p.2.1, .int .i64 p.2.2] W1 → Fl w1.heap.size false W1 → Arr w2.heap.size [.int .i64 u0, .int .i64 u1, .int .i64 u2, .int .i64 u3] W1 → Arr w4.heap.size [.int .i64 a0, .int .i64 a1, .int .i64 a2, .int .i64 a3] W1 → Fl x1_0 false W1 → Arr x1_1 [.int .i64 o0, .int .i64 o1, .int .i64 o2, .int .i64 o3] W1 → w.heap.size ≤ x1_0 → w.heap.size ≤ x1_1 → w.heap.size < x1_0 → w.heap.size + 1 < x1_0 → w1.heap.size < x1_0 → w2.heap.size < x1_0 → w4.heap.size < x1_0 → w.heap.size < x1_1 → w.heap.size + 1 < x1_1 → w1.heap.size < x1_1 → w2.heap.size < x1_1 → w4.heap.size < x1_1 → x1_0 ≠ x1_1 → K0 { tmps := #[.agg #[.int .i64 q.1, .int .i64 q.2.1, .int .i64 q.2.2.1, .int .i64 q.2.2.2], .agg #[.int .i64 p.1, .int .i64 p.2.1, .int .i64 p.2.2], .pointer (some ⟨w.heap.size, 0, none⟩), .pointer (some ⟨w.heap.size + 1, 0, none⟩), .bool false, .pointer (some ⟨w1.heap.size, 0, none⟩), .pointer (some ⟨w2.heap.size, 0, none⟩), .bool true, .pointer (some ⟨w4.heap.size, 0, none⟩), .pointer (some ⟨x1_1, 0, none⟩), undef, t1_11, t1_12, t1_13, t1_14, t1_15, t1_16, t1_17, t1_18, t1_19, t1_20, t1_21, t1_22, t1_23, t1_24, t1_25, t1_26, t1_27, t1_28, t1_29, t1_30, t1_31, undef, undef, undef, undef, undef, undef, undef, undef, undef, undef, undef, undef, undef, undef, undef, undef, undef, undef, undef, undef, undef, undef, undef, undef, undef, undef, undef, undef, undef, undef, undef, undef, undef, undef, undef], defers := [] } W1 := by
    intro W1 t1_11 t1_12 t1_13 t1_14 t1_15 t1_16 t1_17 t1_18 t1_19 t1_20 t1_21 t1_22 t1_23 t1_24 t1_25 t1_26 t1_27 t1_28 t1_29 t1_30 t1_31 x1_0 x1_1 KC1 B0_c1 B1_c1 B2_c1 B3_c1 B4_c1 B5_c1 B6_c1 s1_0 s1_1 s1_2 s1_3 s1_4 s1_5 s1_6 s1_7 s1_8 s1_9 s1_10 s1_11 s1_12
    have zc1_B0 := B0_c1.lies
    have zc1_B1 := B1_c1.lies
    have zc1_B2 := B2_c1.lies
    have zc1_B3 := B3_c1.lies
    have zc1_B4 := B4_c1.lies
    have zc1_B5 := B5_c1.lies
    have zc1_B6 := B6_c1.lies
    apply aK0
    have c6_B2 := B2_c1.cell
    have c6_B6_0 : W1.cell? ⟨x1_1, 0, none⟩ = some (.int .i64 o0) := B6_c1.c 0 (of_decide_eq_true rfl)
    have c6_B6_1 : W1.cell? ⟨x1_1, 1, none⟩ = some (.int .i64 o1) := B6_c1.c 1 (of_decide_eq_true rfl)
    have c6_B6_2 : W1.cell? ⟨x1_1, 2, none⟩ = some (.int .i64 o2) := B6_c1.c 2 (of_decide_eq_true rfl)
    go_wp2_with fail
    refine (near_any (o0, o1, o2) (0, 0, 0) 1024 _ (by first | omega | (dsimp only; omega)) (by first | omega | (dsimp only; omega)) (by first | omega | (dsimp only; omega)) (by omega)).mono ?_
    rintro e w7 ⟨rfl, k7⟩
    rw [hn]
    try dsimp only
    have K7 : Below w.heap.size w w7 := bel_then KC1 k7
    have B0_7 : Arr w.heap.size [.int .i64 q.1, .int .i64 q.2.1, .int .i64 q.2.2.1, .int .i64 q.2.2.2] w7 := B0_c1.below k7
    have B1_7 : Arr (w.heap.size + 1) [.int .i64 p.1, .int .i64 p.2.1, .int .i64 p.2.2] w7 := B1_c1.below k7
    have B2_7 : Fl w1.heap.size false w7 := B2_c1.below k7
    have B3_7 : Arr w2.heap.size [.int .i64 u0, .int .i64 u1, .int .i64 u2, .int .i64 u3] w7 := B3_c1.below k7
    have B4_7 : Arr w4.heap.size [.int .i64 a0, .int .i64 a1, .int .i64 a2, .int .i64 a3] w7 := B4_c1.below k7
    have B5_7 : Fl x1_0 false w7 := B5_c1.below k7
    have B6_7 : Arr x1_1 [.int .i64 o0, .int .i64 o1, .int .i64 o2, .int .i64 o3] w7 := B6_c1.below k7
    have z7 := B6_7.lies
    clear c6_B2 c6_B6_0 c6_B6_1 c6_B6_2 B0_c1 B1_c1 B2_c1 B3_c1 B4_c1 B5_c1 B6_c1 k7
    have c7_B1_0 : w7.cell? ⟨w.heap.size + 1, 0, none⟩ = some (.int .i64 p.1) := B1_7.c 0 (of_decide_eq_true rfl)
    have c7_B1_1 : w7.cell? ⟨w.heap.size + 1, 1, none⟩ = some (.int .i64 p.2.1) := B1_7.c 1 (of_decide_eq_true rfl)
    have c7_B1_2 : w7.cell? ⟨w.heap.size + 1, 2, none⟩ = some (.int .i64 p.2.2) := B1_7.c 2 (of_decide_eq_true rfl)
    go_wp2_with fail
    refine (near_any p (0, 0, 0) 1099511627776 _ (by first | omega | (dsimp only; omega)) (by first | omega | (dsimp only; omega)) (by first | omega | (dsimp only; omega)) (by omega)).mono ?_
    rintro e w8 ⟨rfl, k8⟩
    rw [hp]
    try dsimp only
    have K8 : Below w.heap.size w w8 := bel_then K7 k8
    have B0_8 : Arr w.heap.size [.int .i64 q.1, .int .i64 q.2.1, .int .i64 q.2.2.1, .int .i64 q.2.2.2] w8 := B0_7.below k8
    have B1_8 : Arr (w.heap.size + 1) [.int .i64 p.1, .int .i64 p.2.1, .int .i64 p.2.2] w8 := B1_7.below k8
    have B2_8 : Fl w1.heap.size false w8 := B2_7.below k8
    have B3_8 : Arr w2.heap.size [.int .i64 u0, .int .i64 u1, .int .i64 u2, .int .i64 u3] w8 := B3_7.below k8
    have B4_8 : Arr w4.heap.size [.int .i64 a0, .int .i64 a1, .int .i64 a2, .int .i64 a3] w8 := B4_7.below k8
    have B5_8 : Fl x1_0 false w8 := B5_7.below k8
    have B6_8 : Arr x1_1 [.int .i64 o0, .int .i64 o1, .int .i64 o2, .int .i64 o3] w8 := B6_7.below k8
    have z8 := B6_8.lies
    clear c7_B1_0 c7_B1_1 c7_B1_2 K7 B0_7 B1_7 B2_7 B3_7 B4_7 B5_7 B6_7 k8
    have c8_B1_0 : w8.cell? ⟨w.heap.size + 1, 0, none⟩ = some (.int .i64 p.1) := B1_8.c 0 (of_decide_eq_true rfl)
    have c8_B1_1 : w8.cell? ⟨w.heap.size + 1, 1, none⟩ = some (.int .i64 p.2.1) := B1_8.c 1 (of_decide_eq_true rfl)
    have c8_B1_2 : w8.cell? ⟨w.heap.size + 1, 2, none⟩ = some (.int .i64 p.2.2) := B1_8.c 2 (of_decide_eq_true rfl)
    go_wp2_with fail
    refine (qFromRod_any w1.heap.size false p _ B2_8).mono ?_
    rintro e w9 ⟨rfl, f9, k9⟩
    rw [hr] at f9 ⊢
    dsimp only at f9 ⊢
    have K9 : Below w.heap.size w w9 := k9.on K8 (by omega)
    have B0_9 : Arr w.heap.size [.int .i64 q.1, .int .i64 q.2.1, .int .i64 q.2.2.1, .int .i64 q.2.2.2] w9 := B0_8.kept k9 (by omega)
    have B1_9 : Arr (w.heap.size + 1) [.int .i64 p.1, .int .i64 p.2.1, .int .i64 p.2.2] w9 := B1_8.kept k9 (by omega)
    have B3_9 : Arr w2.heap.size [.int .i64 u0, .int .i64 u1, .int .i64 u2, .int .i64 u3] w9 := B3_8.kept k9 (by omega)
    have B4_9 : Arr w4.heap.size [.int .i64 a0, .int .i64 a1, .int .i64 a2, .int .i64 a3] w9 := B4_8.kept k9 (by omega)
    have B5_9 : Fl x1_0 false w9 := B5_8.kept k9 (by omega)
    have B6_9 : Arr x1_1 [.int .i64 o0, .int .i64 o1, .int .i64 o2, .int .i64 o3] w9 := B6_8.kept k9 (by omega)
    have z9 := B6_9.lies
    clear c8_B1_0 c8_B1_1 c8_B1_2 K8 B0_8 B1_8 B2_8 B3_8 B4_8 B5_8 B6_8 k9
    go_wp2_with fail
    refine (qToRod_any w1.heap.size false (s0, s1, s2, s3) _ f9).mono ?_
    rintro e w10 ⟨rfl, f10, k10⟩
    rw [ht] at f10 ⊢
    dsimp only at f10 ⊢
    have K10 : Below w.heap.size w w10 := k10.on K9 (by omega)
    have B0_10 : Arr w.heap.size [.int .i64 q.1, .int .i64 q.2.1, .int .i64 q.2.2.1, .int .i64 q.2.2.2] w10 := B0_9.kept k10 (by omega)
    have B1_10 : Arr (w.heap.size + 1) [.int .i64 p.1, .int .i64 p.2.1, .int .i64 p.2.2] w10 := B1_9.kept k10 (by omega)
    have B3_10 : Arr w2.heap.size [.int .i64 u0, .int .i64 u1, .int .i64 u2, .int .i64 u3] w10 := B3_9.kept k10 (by omega)
    have B4_10 : Arr w4.heap.size [.int .i64 a0, .int .i64 a1, .int .i64 a2, .int .i64 a3] w10 := B4_9.kept k10 (by omega)
    have B5_10 : Fl x1_0 false w10 := B5_9.kept k10 (by omega)
    have B6_10 : Arr x1_1 [.int .i64 o0, .int .i64 o1, .int .i64 o2, .int .i64 o3] w10 := B6_9.kept k10 (by omega)
    have z10 := B6_10.lies
    clear K9 B0_9 B1_9 f9 B3_9 B4_9 B5_9 B6_9 k10
    have c10_B1_0 : w10.cell? ⟨w.heap.size + 1, 0, none⟩ = some (.int .i64 p.1) := B1_10.c 0 (of_decide_eq_true rfl)
    have c10_B1_1 : w10.cell? ⟨w.heap.size + 1, 1, none⟩ = some (.int .i64 p.2.1) := B1_10.c 1 (of_decide_eq_true rfl)
    have c10_B1_2 : w10.cell? ⟨w.heap.size + 1, 2, none⟩ = some (.int .i64 p.2.2) := B1_10.c 2 (of_decide_eq_true rfl)
    have c10_B2 := f10.cell
    have l10_B1 := B1_10.lies
    have l10_B2 := f10.lies
    go_wp2_with fail
    refine (near_any (t0, t1, t2) p 1024 _ (by first | omega | (dsimp only; omega)) (by first | omega | (dsimp only; omega)) (by first | omega | (dsimp only; omega)) (by omega)).mono ?_
    rintro e w11 ⟨rfl, k11⟩
    rw [hj]
    try dsimp only
    have K11 : Below w.heap.size w w11 := bel_then (bel_al K10 _) k11
    have B0_11 : Arr w.heap.size [.int .i64 q.1, .int .i64 q.2.1, .int .i64 q.2.2.1, .int .i64 q.2.2.2] w11 := (B0_10.alloc _).below k11
    have B1_11 : Arr (w.heap.size + 1) [.int .i64 p.1, .int .i64 p.2.1, .int .i64 p.2.2] w11 := (B1_10.alloc _).below k11
    have B2_11 : Fl w1.heap.size false w11 := (f10.alloc _).below k11
    have B3_11 : Arr w2.heap.size [.int .i64 u0, .int .i64 u1, .int .i64 u2, .int .i64 u3] w11 := (B3_10.alloc _).below k11
    have B4_11 : Arr w4.heap.size [.int .i64 a0, .int .i64 a1, .int .i64 a2, .int .i64 a3] w11 := (B4_10.alloc _).below k11
    have B5_11 : Fl x1_0 false w11 := (B5_10.alloc _).below k11
    have B6_11 : Arr x1_1 [.int .i64 o0, .int .i64 o1, .int .i64 o2, .int .i64 o3] w11 := (B6_10.alloc _).below k11
    have B7_11 : Arr w10.heap.size [.int .i64 t0, .int .i64 t1, .int .i64 t2] w11 := (Arr_at _ _ [.int .i64 t0, .int .i64 t1, .int .i64 t2] _ (by simp)).below k11
    have z11 := B7_11.lies
    clear c10_B1_0 c10_B1_1 c10_B1_2 c10_B2 l10_B1 l10_B2 K10 B0_10 B1_10 f10 B3_10 B4_10 B5_10 B6_10 k11
    go_wp2
    go_ret
    exact ⟨rfl, K11⟩
  refine wp_region_held_drew (S := fun w' => Arr w4.heap.size [.int .i64 a0, .int .i64 a1, .int .i64 a2, .int .i64 a3] w' ∧ Arr w2.heap.size [.int .i64 u0, .int .i64 u1, .int .i64 u2, .int .i64 u3] w') (by kernel_rfl) ⟨(Arr_at _ _ [.int .i64 a0, .int .i64 a1, .int .i64 a2, .int .i64 a3] _ (by simp)).drew, (B3_4.alloc _).drew⟩ (fun hHeld => ?_)
  refine take_at (i := 0) (v := ?v1) rfl (by kernel_rfl) (by kernel_rfl) (by kernel_rfl) (fun _ _ _ h => h) (Or.inl ⟨by rfl, ?y1⟩) hHeld ?t1
  case y1 => (intro wx hSw; go_simp <;> with_reducible rfl)
  simp only [Act.put, List.setIfInBounds_toArray, List.set_cons_zero, List.set_cons_succ]
  refine take_at (i := 2) (v := ?v2) rfl (by kernel_rfl) (by kernel_rfl) (by kernel_rfl) (fun _ _ _ h => h) (Or.inl ⟨by rfl, ?y2⟩) hHeld ?t2
  case y2 => (intro wx hSw; have hc0 : wx.cell? ⟨w4.heap.size, 0, none⟩ = some (.int .i64 a0) := hSw.1.c 0 (of_decide_eq_true rfl); have hc1 : wx.cell? ⟨w4.heap.size, 1, none⟩ = some (.int .i64 a1) := hSw.1.c 1 (of_decide_eq_true rfl); have hc2 : wx.cell? ⟨w4.heap.size, 2, none⟩ = some (.int .i64 a2) := hSw.1.c 2 (of_decide_eq_true rfl); have hc3 : wx.cell? ⟨w4.heap.size, 3, none⟩ = some (.int .i64 a3) := hSw.1.c 3 (of_decide_eq_true rfl); go_simp <;> with_reducible rfl)
  simp only [Act.put, List.setIfInBounds_toArray, List.set_cons_zero, List.set_cons_succ]
  refine take_at (i := 3) (v := ?v3) rfl (by kernel_rfl) (by kernel_rfl) (by kernel_rfl) (fun _ _ _ h => h) (Or.inl ⟨by rfl, ?y3⟩) hHeld ?t3
  case y3 => (intro wx hSw; have hc0 : wx.cell? ⟨w2.heap.size, 0, none⟩ = some (.int .i64 u0) := hSw.2.c 0 (of_decide_eq_true rfl); have hc1 : wx.cell? ⟨w2.heap.size, 1, none⟩ = some (.int .i64 u1) := hSw.2.c 1 (of_decide_eq_true rfl); have hc2 : wx.cell? ⟨w2.heap.size, 2, none⟩ = some (.int .i64 u2) := hSw.2.c 2 (of_decide_eq_true rfl); have hc3 : wx.cell? ⟨w2.heap.size, 3, none⟩ = some (.int .i64 u3) := hSw.2.c 3 (of_decide_eq_true rfl); go_simp <;> with_reducible rfl)
  simp only [Act.put, List.setIfInBounds_toArray, List.set_cons_zero, List.set_cons_succ]
  refine call_at3 (i0 := 1) (i1 := 4) (i2 := 6) (by kernel_rfl) rfl rfl rfl (fun K hK => ?_) (fun K hK => ?_) (fun K hK => ?_)
  · go_simp
    clear hHeld
    refine hK.out _ _ ⟨((Arr_at _ _ [.int .i64 a0, .int .i64 a1, .int .i64 a2, .int .i64 a3] _ (by simp)).alloc _).drew, ((B3_4.alloc _).alloc _).drew⟩ (fun hHeld => ?_)
    clear hK K
    refine call_at2 (i0 := 4) (i1 := 6) (by kernel_rfl) rfl rfl (fun K hK => ?_) (fun K hK => ?_)
    · go_simp
      refine (yBack_any (u0, u1, u2, u3) _).mono ?_
      rintro e w5 ⟨rfl, k5⟩
      rw [hb]
      try dsimp only
      have K5 : Below w.heap.size w w5 := bel_then (Below.drew (bel_al (bel_al K4 _) _)) k5
      have B0_5 : Arr w.heap.size [.int .i64 q.1, .int .i64 q.2.1, .int .i64 q.2.2.1, .int .i64 q.2.2.2] w5 := ((B0_4.alloc _).alloc _).drew.below k5
      have B1_5 : Arr (w.heap.size + 1) [.int .i64 p.1, .int .i64 p.2.1, .int .i64 p.2.2] w5 := ((B1_4.alloc _).alloc _).drew.below k5
      have B2_5 : Fl w1.heap.size false w5 := ((f4.alloc _).alloc _).drew.below k5
      have B3_5 : Arr w2.heap.size [.int .i64 u0, .int .i64 u1, .int .i64 u2, .int .i64 u3] w5 := ((B3_4.alloc _).alloc _).drew.below k5
      have B4_5 : Arr w4.heap.size [.int .i64 a0, .int .i64 a1, .int .i64 a2, .int .i64 a3] w5 := ((Arr_at _ _ [.int .i64 a0, .int .i64 a1, .int .i64 a2, .int .i64 a3] _ (by simp)).alloc _).drew.below k5
      have B5_5 : Fl (w4.heap.size + 1) false w5 := (Fl_at _ _ _ _ (by simp)).drew.below k5
      have z5 := B5_5.lies
      clear hHeld
      refine hK.out _ _ ⟨B4_5, B3_5⟩ (fun hHeld => ?_)
      clear hK K K4 B0_4 B1_4 f4 B3_4 k5
      refine call_at2 (i0 := 5) (i1 := 6) (by kernel_rfl) rfl rfl (fun K hK => ?_) (fun K hK => ?_)
      · go_simp
        refine (yMul_any (w4.heap.size + 1) false (a0, a1, a2, a3) ((-u0), (-u1), (-u2), u3) _ B5_5).mono ?_
        rintro e w6 ⟨rfl, f6, k6⟩
        rw [hd] at f6 ⊢
        dsimp only at f6 ⊢
        have K6 : Below w.heap.size w w6 := k6.on K5 (by omega)
        have B0_6 : Arr w.heap.size [.int .i64 q.1, .int .i64 q.2.1, .int .i64 q.2.2.1, .int .i64 q.2.2.2] w6 := B0_5.kept k6 (by omega)
        have B1_6 : Arr (w.heap.size + 1) [.int .i64 p.1, .int .i64 p.2.1, .int .i64 p.2.2] w6 := B1_5.kept k6 (by omega)
        have B2_6 : Fl w1.heap.size false w6 := B2_5.kept k6 (by omega)
        have B3_6 : Arr w2.heap.size [.int .i64 u0, .int .i64 u1, .int .i64 u2, .int .i64 u3] w6 := B3_5.kept k6 (by omega)
        have B4_6 : Arr w4.heap.size [.int .i64 a0, .int .i64 a1, .int .i64 a2, .int .i64 a3] w6 := B4_5.kept k6 (by omega)
        have z6 := f6.lies
        clear hHeld
        refine hK.out _ _ ⟨B4_6, B3_6⟩ (fun hHeld => ?_)
        clear hK K K5 B0_5 B1_5 B2_5 B3_5 B4_5 B5_5 k6
        refine call_at (i := 6) (by kernel_rfl) rfl (fun K hK => ?_)
        go_simp
        clear hHeld
        refine hK.out _ _ ⟨(B4_6.alloc _), (B3_6.alloc _)⟩ (fun hHeld => ?_)
        clear hK K
        refine call_at (i := 7) (by kernel_rfl) rfl (fun K hK => ?_)
        go_simp
        clear hHeld
        refine hK.out _ _ ⟨(B4_6.alloc _), (B3_6.alloc _)⟩ (fun hHeld => ?_)
        clear hK K
        refine wpAnyH_done (by kernel_rfl) ?_ _
        clear hHeld
        exact cont1 _ _ _ _ _ _ _ _ _ _ _ _ _ _ _ _ _ _ _ _ _ _ (w4.heap.size + 1) w6.heap.size (bel_al K6 _) (B0_6.alloc _) (B1_6.alloc _) (B2_6.alloc _) (B3_6.alloc _) (B4_6.alloc _) (f6.alloc _) (Arr_at _ _ [.int .i64 o0, .int .i64 o1, .int .i64 o2, .int .i64 o3] _ (by simp)) (by omega) (by omega) (by omega) (by omega) (by omega) (by omega) (by omega) (by omega) (by omega) (by omega) (by omega) (by omega) (by omega)
      · go_simp
        clear hHeld
        refine hK.out _ _ ⟨(B4_5.alloc _), (B3_5.alloc _)⟩ (fun hHeld => ?_)
        clear hK K
        refine call_at (i := 5) (by kernel_rfl) rfl (fun K hK => ?_)
        go_simp
        refine (yMul_any (w4.heap.size + 1) false (a0, a1, a2, a3) ((-u0), (-u1), (-u2), u3) _ (B5_5.alloc _)).mono ?_
        rintro e w6 ⟨rfl, f6, k6⟩
        rw [hd] at f6 ⊢
        dsimp only at f6 ⊢
        have K6 : Below w.heap.size w w6 := k6.on (bel_al K5 _) (by omega)
        have B0_6 : Arr w.heap.size [.int .i64 q.1, .int .i64 q.2.1, .int .i64 q.2.2.1, .int .i64 q.2.2.2] w6 := (B0_5.alloc _).kept k6 (by omega)
        have B1_6 : Arr (w.heap.size + 1) [.int .i64 p.1, .int .i64 p.2.1, .int .i64 p.2.2] w6 := (B1_5.alloc _).kept k6 (by omega)
        have B2_6 : Fl w1.heap.size false w6 := (B2_5.alloc _).kept k6 (by omega)
        have B3_6 : Arr w2.heap.size [.int .i64 u0, .int .i64 u1, .int .i64 u2, .int .i64 u3] w6 := (B3_5.alloc _).kept k6 (by omega)
        have B4_6 : Arr w4.heap.size [.int .i64 a0, .int .i64 a1, .int .i64 a2, .int .i64 a3] w6 := (B4_5.alloc _).kept k6 (by omega)
        have B6_6 : Arr w5.heap.size [.int .i64 0, .int .i64 0, .int .i64 0, .int .i64 0] w6 := (Arr_at _ _ [.int .i64 0, .int .i64 0, .int .i64 0, .int .i64 0] _ (by simp)).kept k6 (by omega)
        have z6 := B6_6.lies
        clear hHeld
        refine hK.out _ _ ⟨B4_6, B3_6⟩ (fun hHeld => ?_)
        clear hK K K5 B0_5 B1_5 B2_5 B3_5 B4_5 B5_5 k6
        refine call_at (i := 7) (by kernel_rfl) rfl (fun K hK => ?_)
        have c8_B6_0 : w6.cell? ⟨w5.heap.size, 0, none⟩ = some (.int .i64 0) := B6_6.c 0 (of_decide_eq_true rfl)
        have c8_B6_1 : w6.cell? ⟨w5.heap.size, 1, none⟩ = some (.int .i64 0) := B6_6.c 1 (of_decide_eq_true rfl)
        have c8_B6_2 : w6.cell? ⟨w5.heap.size, 2, none⟩ = some (.int .i64 0) := B6_6.c 2 (of_decide_eq_true rfl)
        have c8_B6_3 : w6.cell? ⟨w5.heap.size, 3, none⟩ = some (.int .i64 0) := B6_6.c 3 (of_decide_eq_true rfl)
        have g8_B6_0 := B6_6.f 0 (of_decide_eq_true rfl)
        have g8_B6_1 := B6_6.f 1 (of_decide_eq_true rfl)
        have g8_B6_2 := B6_6.f 2 (of_decide_eq_true rfl)
        have g8_B6_3 := B6_6.f 3 (of_decide_eq_true rfl)
        go_simp
        clear hHeld
        refine hK.out _ _ ⟨((((B4_6.new w5.heap.size 0 (by omega) (.int .i64 o0)).new w5.heap.size 1 (by omega) (.int .i64 o1)).new w5.heap.size 2 (by omega) (.int .i64 o2)).new w5.heap.size 3 (by omega) (.int .i64 o3)), ((((B3_6.new w5.heap.size 0 (by omega) (.int .i64 o0)).new w5.heap.size 1 (by omega) (.int .i64 o1)).new w5.heap.size 2 (by omega) (.int .i64 o2)).new w5.heap.size 3 (by omega) (.int .i64 o3))⟩ (fun hHeld => ?_)
        clear hK K c8_B6_0 c8_B6_1 c8_B6_2 c8_B6_3 g8_B6_0 g8_B6_1 g8_B6_2 g8_B6_3
        refine wpAnyH_done (by kernel_rfl) ?_ _
        clear hHeld
        exact cont1 _ _ _ _ _ _ _ _ _ _ _ _ _ _ _ _ _ _ _ _ _ _ (w4.heap.size + 1) w5.heap.size (bel_new (bel_new (bel_new (bel_new K6 _ _ (by omega) _) _ _ (by omega) _) _ _ (by omega) _) _ _ (by omega) _) ((((B0_6.new w5.heap.size 0 (by omega) (.int .i64 o0)).new w5.heap.size 1 (by omega) (.int .i64 o1)).new w5.heap.size 2 (by omega) (.int .i64 o2)).new w5.heap.size 3 (by omega) (.int .i64 o3)) ((((B1_6.new w5.heap.size 0 (by omega) (.int .i64 o0)).new w5.heap.size 1 (by omega) (.int .i64 o1)).new w5.heap.size 2 (by omega) (.int .i64 o2)).new w5.heap.size 3 (by omega) (.int .i64 o3)) ((((B2_6.new w5.heap.size 0 (by omega) (.int .i64 o0)).new w5.heap.size 1 (by omega) (.int .i64 o1)).new w5.heap.size 2 (by omega) (.int .i64 o2)).new w5.heap.size 3 (by omega) (.int .i64 o3)) ((((B3_6.new w5.heap.size 0 (by omega) (.int .i64 o0)).new w5.heap.size 1 (by omega) (.int .i64 o1)).new w5.heap.size 2 (by omega) (.int .i64 o2)).new w5.heap.size 3 (by omega) (.int .i64 o3)) ((((B4_6.new w5.heap.size 0 (by omega) (.int .i64 o0)).new w5.heap.size 1 (by omega) (.int .i64 o1)).new w5.heap.size 2 (by omega) (.int .i64 o2)).new w5.heap.size 3 (by omega) (.int .i64 o3)) ((((f6.new w5.heap.size 0 (by omega) (.int .i64 o0)).new w5.heap.size 1 (by omega) (.int .i64 o1)).new w5.heap.size 2 (by omega) (.int .i64 o2)).new w5.heap.size 3 (by omega) (.int .i64 o3)) ((((B6_6.put 0 (of_decide_eq_true rfl) (.int .i64 o0) [.int .i64 o0, .int .i64 0, .int .i64 0, .int .i64 0] rfl).put 1 (of_decide_eq_true rfl) (.int .i64 o1) [.int .i64 o0, .int .i64 o1, .int .i64 0, .int .i64 0] rfl).put 2 (of_decide_eq_true rfl) (.int .i64 o2) [.int .i64 o0, .int .i64 o1, .int .i64 o2, .int .i64 0] rfl).put 3 (of_decide_eq_true rfl) (.int .i64 o3) [.int .i64 o0, .int .i64 o1, .int .i64 o2, .int .i64 o3] rfl) (by omega) (by omega) (by omega) (by omega) (by omega) (by omega) (by omega) (by omega) (by omega) (by omega) (by omega) (by omega) (by omega)
    · go_simp
      clear hHeld
      refine hK.out _ _ ⟨(((Arr_at _ _ [.int .i64 a0, .int .i64 a1, .int .i64 a2, .int .i64 a3] _ (by simp)).alloc _).alloc _).drew, (((B3_4.alloc _).alloc _).alloc _).drew⟩ (fun hHeld => ?_)
      clear hK K
      refine call_at (i := 4) (by kernel_rfl) rfl (fun K hK => ?_)
      go_simp
      refine (yBack_any (u0, u1, u2, u3) _).mono ?_
      rintro e w5 ⟨rfl, k5⟩
      rw [hb]
      try dsimp only
      have K5 : Below w.heap.size w w5 := bel_then (Below.drew (bel_al (bel_al (bel_al K4 _) _) _)) k5
      have B0_5 : Arr w.heap.size [.int .i64 q.1, .int .i64 q.2.1, .int .i64 q.2.2.1, .int .i64 q.2.2.2] w5 := (((B0_4.alloc _).alloc _).alloc _).drew.below k5
      have B1_5 : Arr (w.heap.size + 1) [.int .i64 p.1, .int .i64 p.2.1, .int .i64 p.2.2] w5 := (((B1_4.alloc _).alloc _).alloc _).drew.below k5
      have B2_5 : Fl w1.heap.size false w5 := (((f4.alloc _).alloc _).alloc _).drew.below k5
      have B3_5 : Arr w2.heap.size [.int .i64 u0, .int .i64 u1, .int .i64 u2, .int .i64 u3] w5 := (((B3_4.alloc _).alloc _).alloc _).drew.below k5
      have B4_5 : Arr w4.heap.size [.int .i64 a0, .int .i64 a1, .int .i64 a2, .int .i64 a3] w5 := (((Arr_at _ _ [.int .i64 a0, .int .i64 a1, .int .i64 a2, .int .i64 a3] _ (by simp)).alloc _).alloc _).drew.below k5
      have B5_5 : Fl (w4.heap.size + 1) false w5 := ((Fl_at _ _ _ _ (by simp)).alloc _).drew.below k5
      have B6_5 : Arr (w4.heap.size + 1 + 1) [.int .i64 0, .int .i64 0, .int .i64 0, .int .i64 0] w5 := (Arr_at _ _ [.int .i64 0, .int .i64 0, .int .i64 0, .int .i64 0] _ (by simp)).drew.below k5
      have z5 := B6_5.lies
      clear hHeld
      refine hK.out _ _ ⟨B4_5, B3_5⟩ (fun hHeld => ?_)
      clear hK K K4 B0_4 B1_4 f4 B3_4 k5
      refine call_at (i := 5) (by kernel_rfl) rfl (fun K hK => ?_)
      go_simp
      refine (yMul_any (w4.heap.size + 1) false (a0, a1, a2, a3) ((-u0), (-u1), (-u2), u3) _ B5_5).mono ?_
      rintro e w6 ⟨rfl, f6, k6⟩
      rw [hd] at f6 ⊢
      dsimp only at f6 ⊢
      have K6 : Below w.heap.size w w6 := k6.on K5 (by omega)
      have B0_6 : Arr w.heap.size [.int .i64 q.1, .int .i64 q.2.1, .int .i64 q.2.2.1, .int .i64 q.2.2.2] w6 := B0_5.kept k6 (by omega)
      have B1_6 : Arr (w.heap.size + 1) [.int .i64 p.1, .int .i64 p.2.1, .int .i64 p.2.2] w6 := B1_5.kept k6 (by omega)
      have B2_6 : Fl w1.heap.size false w6 := B2_5.kept k6 (by omega)
      have B3_6 : Arr w2.heap.size [.int .i64 u0, .int .i64 u1, .int .i64 u2, .int .i64 u3] w6 := B3_5.kept k6 (by omega)
      have B4_6 : Arr w4.heap.size [.int .i64 a0, .int .i64 a1, .int .i64 a2, .int .i64 a3] w6 := B4_5.kept k6 (by omega)
      have B6_6 : Arr (w4.heap.size + 1 + 1) [.int .i64 0, .int .i64 0, .int .i64 0, .int .i64 0] w6 := B6_5.kept k6 (by omega)
      have z6 := B6_6.lies
      clear hHeld
      refine hK.out _ _ ⟨B4_6, B3_6⟩ (fun hHeld => ?_)
      clear hK K K5 B0_5 B1_5 B2_5 B3_5 B4_5 B5_5 B6_5 k6
      refine call_at (i := 7) (by kernel_rfl) rfl (fun K hK => ?_)
      have c8_B6_0 : w6.cell? ⟨w4.heap.size + 1 + 1, 0, none⟩ = some (.int .i64 0) := B6_6.c 0 (of_decide_eq_true rfl)
      have c8_B6_1 : w6.cell? ⟨w4.heap.size + 1 + 1, 1, none⟩ = some (.int .i64 0) := B6_6.c 1 (of_decide_eq_true rfl)
      have c8_B6_2 : w6.cell? ⟨w4.heap.size + 1 + 1, 2, none⟩ = some (.int .i64 0) := B6_6.c 2 (of_decide_eq_true rfl)
      have c8_B6_3 : w6.cell? ⟨w4.heap.size + 1 + 1, 3, none⟩ = some (.int .i64 0) := B6_6.c 3 (of_decide_eq_true rfl)
      have g8_B6_0 := B6_6.f 0 (of_decide_eq_true rfl)
      have g8_B6_1 := B6_6.f 1 (of_decide_eq_true rfl)
      have g8_B6_2 := B6_6.f 2 (of_decide_eq_true rfl)
      have g8_B6_3 := B6_6.f 3 (of_decide_eq_true rfl)
      go_simp
      clear hHeld
      refine hK.out _ _ ⟨((((B4_6.new (w4.heap.size + 1 + 1) 0 (by omega) (.int .i64 o0)).new (w4.heap.size + 1 + 1) 1 (by omega) (.int .i64 o1)).new (w4.heap.size + 1 + 1) 2 (by omega) (.int .i64 o2)).new (w4.heap.size + 1 + 1) 3 (by omega) (.int .i64 o3)), ((((B3_6.new (w4.heap.size + 1 + 1) 0 (by omega) (.int .i64 o0)).new (w4.heap.size + 1 + 1) 1 (by omega) (.int .i64 o1)).new (w4.heap.size + 1 + 1) 2 (by omega) (.int .i64 o2)).new (w4.heap.size + 1 + 1) 3 (by omega) (.int .i64 o3))⟩ (fun hHeld => ?_)
      clear hK K c8_B6_0 c8_B6_1 c8_B6_2 c8_B6_3 g8_B6_0 g8_B6_1 g8_B6_2 g8_B6_3
      refine wpAnyH_done (by kernel_rfl) ?_ _
      clear hHeld
      exact cont1 _ _ _ _ _ _ _ _ _ _ _ _ _ _ _ _ _ _ _ _ _ _ (w4.heap.size + 1) (w4.heap.size + 1 + 1) (bel_new (bel_new (bel_new (bel_new K6 _ _ (by omega) _) _ _ (by omega) _) _ _ (by omega) _) _ _ (by omega) _) ((((B0_6.new (w4.heap.size + 1 + 1) 0 (by omega) (.int .i64 o0)).new (w4.heap.size + 1 + 1) 1 (by omega) (.int .i64 o1)).new (w4.heap.size + 1 + 1) 2 (by omega) (.int .i64 o2)).new (w4.heap.size + 1 + 1) 3 (by omega) (.int .i64 o3)) ((((B1_6.new (w4.heap.size + 1 + 1) 0 (by omega) (.int .i64 o0)).new (w4.heap.size + 1 + 1) 1 (by omega) (.int .i64 o1)).new (w4.heap.size + 1 + 1) 2 (by omega) (.int .i64 o2)).new (w4.heap.size + 1 + 1) 3 (by omega) (.int .i64 o3)) ((((B2_6.new (w4.heap.size + 1 + 1) 0 (by omega) (.int .i64 o0)).new (w4.heap.size + 1 + 1) 1 (by omega) (.int .i64 o1)).new (w4.heap.size + 1 + 1) 2 (by omega) (.int .i64 o2)).new (w4.heap.size + 1 + 1) 3 (by omega) (.int .i64 o3)) ((((B3_6.new (w4.heap.size + 1 + 1) 0 (by omega) (.int .i64 o0)).new (w4.heap.size + 1 + 1) 1 (by omega) (.int .i64 o1)).new (w4.heap.size + 1 + 1) 2 (by omega) (.int .i64 o2)).new (w4.heap.size + 1 + 1) 3 (by omega) (.int .i64 o3)) ((((B4_6.new (w4.heap.size + 1 + 1) 0 (by omega) (.int .i64 o0)).new (w4.heap.size + 1 + 1) 1 (by omega) (.int .i64 o1)).new (w4.heap.size + 1 + 1) 2 (by omega) (.int .i64 o2)).new (w4.heap.size + 1 + 1) 3 (by omega) (.int .i64 o3)) ((((f6.new (w4.heap.size + 1 + 1) 0 (by omega) (.int .i64 o0)).new (w4.heap.size + 1 + 1) 1 (by omega) (.int .i64 o1)).new (w4.heap.size + 1 + 1) 2 (by omega) (.int .i64 o2)).new (w4.heap.size + 1 + 1) 3 (by omega) (.int .i64 o3)) ((((B6_6.put 0 (of_decide_eq_true rfl) (.int .i64 o0) [.int .i64 o0, .int .i64 0, .int .i64 0, .int .i64 0] rfl).put 1 (of_decide_eq_true rfl) (.int .i64 o1) [.int .i64 o0, .int .i64 o1, .int .i64 0, .int .i64 0] rfl).put 2 (of_decide_eq_true rfl) (.int .i64 o2) [.int .i64 o0, .int .i64 o1, .int .i64 o2, .int .i64 0] rfl).put 3 (of_decide_eq_true rfl) (.int .i64 o3) [.int .i64 o0, .int .i64 o1, .int .i64 o2, .int .i64 o3] rfl) (by omega) (by omega) (by omega) (by omega) (by omega) (by omega) (by omega) (by omega) (by omega) (by omega) (by omega) (by omega) (by omega)
  · go_simp
    refine (yBack_any (u0, u1, u2, u3) _).mono ?_
    rintro e w5 ⟨rfl, k5⟩
    rw [hb]
    try dsimp only
    have K5 : Below w.heap.size w w5 := bel_then (Below.drew (bel_al K4 _)) k5
    have B0_5 : Arr w.heap.size [.int .i64 q.1, .int .i64 q.2.1, .int .i64 q.2.2.1, .int .i64 q.2.2.2] w5 := (B0_4.alloc _).drew.below k5
    have B1_5 : Arr (w.heap.size + 1) [.int .i64 p.1, .int .i64 p.2.1, .int .i64 p.2.2] w5 := (B1_4.alloc _).drew.below k5
    have B2_5 : Fl w1.heap.size false w5 := (f4.alloc _).drew.below k5
    have B3_5 : Arr w2.heap.size [.int .i64 u0, .int .i64 u1, .int .i64 u2, .int .i64 u3] w5 := (B3_4.alloc _).drew.below k5
    have B4_5 : Arr w4.heap.size [.int .i64 a0, .int .i64 a1, .int .i64 a2, .int .i64 a3] w5 := (Arr_at _ _ [.int .i64 a0, .int .i64 a1, .int .i64 a2, .int .i64 a3] _ (by simp)).drew.below k5
    have z5 := B4_5.lies
    clear hHeld
    refine hK.out _ _ ⟨B4_5, B3_5⟩ (fun hHeld => ?_)
    clear hK K K4 B0_4 B1_4 f4 B3_4 k5
    refine call_at2 (i0 := 1) (i1 := 6) (by kernel_rfl) rfl rfl (fun K hK => ?_) (fun K hK => ?_)
    · go_simp
      clear hHeld
      refine hK.out _ _ ⟨(B4_5.alloc _), (B3_5.alloc _)⟩ (fun hHeld => ?_)
      clear hK K
      refine call_at2 (i0 := 5) (i1 := 6) (by kernel_rfl) rfl rfl (fun K hK => ?_) (fun K hK => ?_)
      · go_simp
        refine (yMul_any w5.heap.size false (a0, a1, a2, a3) ((-u0), (-u1), (-u2), u3) _ (Fl_at _ _ _ _ (by simp))).mono ?_
        rintro e w6 ⟨rfl, f6, k6⟩
        rw [hd] at f6 ⊢
        dsimp only at f6 ⊢
        have K6 : Below w.heap.size w w6 := k6.on (bel_al K5 _) (by omega)
        have B0_6 : Arr w.heap.size [.int .i64 q.1, .int .i64 q.2.1, .int .i64 q.2.2.1, .int .i64 q.2.2.2] w6 := (B0_5.alloc _).kept k6 (by omega)
        have B1_6 : Arr (w.heap.size + 1) [.int .i64 p.1, .int .i64 p.2.1, .int .i64 p.2.2] w6 := (B1_5.alloc _).kept k6 (by omega)
        have B2_6 : Fl w1.heap.size false w6 := (B2_5.alloc _).kept k6 (by omega)
        have B3_6 : Arr w2.heap.size [.int .i64 u0, .int .i64 u1, .int .i64 u2, .int .i64 u3] w6 := (B3_5.alloc _).kept k6 (by omega)
        have B4_6 : Arr w4.heap.size [.int .i64 a0, .int .i64 a1, .int .i64 a2, .int .i64 a3] w6 := (B4_5.alloc _).kept k6 (by omega)
        have z6 := f6.lies
        clear hHeld
        refine hK.out _ _ ⟨B4_6, B3_6⟩ (fun hHeld => ?_)
        clear hK K K5 B0_5 B1_5 B2_5 B3_5 B4_5 k6
        refine call_at (i := 6) (by kernel_rfl) rfl (fun K hK => ?_)
        go_simp
        clear hHeld
        refine hK.out _ _ ⟨(B4_6.alloc _), (B3_6.alloc _)⟩ (fun hHeld => ?_)
        clear hK K
        refine call_at (i := 7) (by kernel_rfl) rfl (fun K hK => ?_)
        go_simp
        clear hHeld
        refine hK.out _ _ ⟨(B4_6.alloc _), (B3_6.alloc _)⟩ (fun hHeld => ?_)
        clear hK K
        refine wpAnyH_done (by kernel_rfl) ?_ _
        clear hHeld
        exact cont1 _ _ _ _ _ _ _ _ _ _ _ _ _ _ _ _ _ _ _ _ _ _ w5.heap.size w6.heap.size (bel_al K6 _) (B0_6.alloc _) (B1_6.alloc _) (B2_6.alloc _) (B3_6.alloc _) (B4_6.alloc _) (f6.alloc _) (Arr_at _ _ [.int .i64 o0, .int .i64 o1, .int .i64 o2, .int .i64 o3] _ (by simp)) (by omega) (by omega) (by omega) (by omega) (by omega) (by omega) (by omega) (by omega) (by omega) (by omega) (by omega) (by omega) (by omega)
      · go_simp
        clear hHeld
        refine hK.out _ _ ⟨((B4_5.alloc _).alloc _), ((B3_5.alloc _).alloc _)⟩ (fun hHeld => ?_)
        clear hK K
        refine call_at (i := 5) (by kernel_rfl) rfl (fun K hK => ?_)
        go_simp
        refine (yMul_any w5.heap.size false (a0, a1, a2, a3) ((-u0), (-u1), (-u2), u3) _ ((Fl_at _ _ _ _ (by simp)).alloc _)).mono ?_
        rintro e w6 ⟨rfl, f6, k6⟩
        rw [hd] at f6 ⊢
        dsimp only at f6 ⊢
        have K6 : Below w.heap.size w w6 := k6.on (bel_al (bel_al K5 _) _) (by omega)
        have B0_6 : Arr w.heap.size [.int .i64 q.1, .int .i64 q.2.1, .int .i64 q.2.2.1, .int .i64 q.2.2.2] w6 := ((B0_5.alloc _).alloc _).kept k6 (by omega)
        have B1_6 : Arr (w.heap.size + 1) [.int .i64 p.1, .int .i64 p.2.1, .int .i64 p.2.2] w6 := ((B1_5.alloc _).alloc _).kept k6 (by omega)
        have B2_6 : Fl w1.heap.size false w6 := ((B2_5.alloc _).alloc _).kept k6 (by omega)
        have B3_6 : Arr w2.heap.size [.int .i64 u0, .int .i64 u1, .int .i64 u2, .int .i64 u3] w6 := ((B3_5.alloc _).alloc _).kept k6 (by omega)
        have B4_6 : Arr w4.heap.size [.int .i64 a0, .int .i64 a1, .int .i64 a2, .int .i64 a3] w6 := ((B4_5.alloc _).alloc _).kept k6 (by omega)
        have B6_6 : Arr (w5.heap.size + 1) [.int .i64 0, .int .i64 0, .int .i64 0, .int .i64 0] w6 := (Arr_at _ _ [.int .i64 0, .int .i64 0, .int .i64 0, .int .i64 0] _ (by simp)).kept k6 (by omega)
        have z6 := B6_6.lies
        clear hHeld
        refine hK.out _ _ ⟨B4_6, B3_6⟩ (fun hHeld => ?_)
        clear hK K K5 B0_5 B1_5 B2_5 B3_5 B4_5 k6
        refine call_at (i := 7) (by kernel_rfl) rfl (fun K hK => ?_)
        have c8_B6_0 : w6.cell? ⟨w5.heap.size + 1, 0, none⟩ = some (.int .i64 0) := B6_6.c 0 (of_decide_eq_true rfl)
        have c8_B6_1 : w6.cell? ⟨w5.heap.size + 1, 1, none⟩ = some (.int .i64 0) := B6_6.c 1 (of_decide_eq_true rfl)
        have c8_B6_2 : w6.cell? ⟨w5.heap.size + 1, 2, none⟩ = some (.int .i64 0) := B6_6.c 2 (of_decide_eq_true rfl)
        have c8_B6_3 : w6.cell? ⟨w5.heap.size + 1, 3, none⟩ = some (.int .i64 0) := B6_6.c 3 (of_decide_eq_true rfl)
        have g8_B6_0 := B6_6.f 0 (of_decide_eq_true rfl)
        have g8_B6_1 := B6_6.f 1 (of_decide_eq_true rfl)
        have g8_B6_2 := B6_6.f 2 (of_decide_eq_true rfl)
        have g8_B6_3 := B6_6.f 3 (of_decide_eq_true rfl)
        go_simp
        clear hHeld
        refine hK.out _ _ ⟨((((B4_6.new (w5.heap.size + 1) 0 (by omega) (.int .i64 o0)).new (w5.heap.size + 1) 1 (by omega) (.int .i64 o1)).new (w5.heap.size + 1) 2 (by omega) (.int .i64 o2)).new (w5.heap.size + 1) 3 (by omega) (.int .i64 o3)), ((((B3_6.new (w5.heap.size + 1) 0 (by omega) (.int .i64 o0)).new (w5.heap.size + 1) 1 (by omega) (.int .i64 o1)).new (w5.heap.size + 1) 2 (by omega) (.int .i64 o2)).new (w5.heap.size + 1) 3 (by omega) (.int .i64 o3))⟩ (fun hHeld => ?_)
        clear hK K c8_B6_0 c8_B6_1 c8_B6_2 c8_B6_3 g8_B6_0 g8_B6_1 g8_B6_2 g8_B6_3
        refine wpAnyH_done (by kernel_rfl) ?_ _
        clear hHeld
        exact cont1 _ _ _ _ _ _ _ _ _ _ _ _ _ _ _ _ _ _ _ _ _ _ w5.heap.size (w5.heap.size + 1) (bel_new (bel_new (bel_new (bel_new K6 _ _ (by omega) _) _ _ (by omega) _) _ _ (by omega) _) _ _ (by omega) _) ((((B0_6.new (w5.heap.size + 1) 0 (by omega) (.int .i64 o0)).new (w5.heap.size + 1) 1 (by omega) (.int .i64 o1)).new (w5.heap.size + 1) 2 (by omega) (.int .i64 o2)).new (w5.heap.size + 1) 3 (by omega) (.int .i64 o3)) ((((B1_6.new (w5.heap.size + 1) 0 (by omega) (.int .i64 o0)).new (w5.heap.size + 1) 1 (by omega) (.int .i64 o1)).new (w5.heap.size + 1) 2 (by omega) (.int .i64 o2)).new (w5.heap.size + 1) 3 (by omega) (.int .i64 o3)) ((((B2_6.new (w5.heap.size + 1) 0 (by omega) (.int .i64 o0)).new (w5.heap.size + 1) 1 (by omega) (.int .i64 o1)).new (w5.heap.size + 1) 2 (by omega) (.int .i64 o2)).new (w5.heap.size + 1) 3 (by omega) (.int .i64 o3)) ((((B3_6.new (w5.heap.size + 1) 0 (by omega) (.int .i64 o0)).new (w5.heap.size + 1) 1 (by omega) (.int .i64 o1)).new (w5.heap.size + 1) 2 (by omega) (.int .i64 o2)).new (w5.heap.size + 1) 3 (by omega) (.int .i64 o3)) ((((B4_6.new (w5.heap.size + 1) 0 (by omega) (.int .i64 o0)).new (w5.heap.size + 1) 1 (by omega) (.int .i64 o1)).new (w5.heap.size + 1) 2 (by omega) (.int .i64 o2)).new (w5.heap.size + 1) 3 (by omega) (.int .i64 o3)) ((((f6.new (w5.heap.size + 1) 0 (by omega) (.int .i64 o0)).new (w5.heap.size + 1) 1 (by omega) (.int .i64 o1)).new (w5.heap.size + 1) 2 (by omega) (.int .i64 o2)).new (w5.heap.size + 1) 3 (by omega) (.int .i64 o3)) ((((B6_6.put 0 (of_decide_eq_true rfl) (.int .i64 o0) [.int .i64 o0, .int .i64 0, .int .i64 0, .int .i64 0] rfl).put 1 (of_decide_eq_true rfl) (.int .i64 o1) [.int .i64 o0, .int .i64 o1, .int .i64 0, .int .i64 0] rfl).put 2 (of_decide_eq_true rfl) (.int .i64 o2) [.int .i64 o0, .int .i64 o1, .int .i64 o2, .int .i64 0] rfl).put 3 (of_decide_eq_true rfl) (.int .i64 o3) [.int .i64 o0, .int .i64 o1, .int .i64 o2, .int .i64 o3] rfl) (by omega) (by omega) (by omega) (by omega) (by omega) (by omega) (by omega) (by omega) (by omega) (by omega) (by omega) (by omega) (by omega)
    · go_simp
      clear hHeld
      refine hK.out _ _ ⟨(B4_5.alloc _), (B3_5.alloc _)⟩ (fun hHeld => ?_)
      clear hK K
      refine call_at (i := 1) (by kernel_rfl) rfl (fun K hK => ?_)
      go_simp
      clear hHeld
      refine hK.out _ _ ⟨((B4_5.alloc _).alloc _), ((B3_5.alloc _).alloc _)⟩ (fun hHeld => ?_)
      clear hK K
      refine call_at (i := 5) (by kernel_rfl) rfl (fun K hK => ?_)
      go_simp
      refine (yMul_any (w5.heap.size + 1) false (a0, a1, a2, a3) ((-u0), (-u1), (-u2), u3) _ (Fl_at _ _ _ _ (by simp))).mono ?_
      rintro e w6 ⟨rfl, f6, k6⟩
      rw [hd] at f6 ⊢
      dsimp only at f6 ⊢
      have K6 : Below w.heap.size w w6 := k6.on (bel_al (bel_al K5 _) _) (by omega)
      have B0_6 : Arr w.heap.size [.int .i64 q.1, .int .i64 q.2.1, .int .i64 q.2.2.1, .int .i64 q.2.2.2] w6 := ((B0_5.alloc _).alloc _).kept k6 (by omega)
      have B1_6 : Arr (w.heap.size + 1) [.int .i64 p.1, .int .i64 p.2.1, .int .i64 p.2.2] w6 := ((B1_5.alloc _).alloc _).kept k6 (by omega)
      have B2_6 : Fl w1.heap.size false w6 := ((B2_5.alloc _).alloc _).kept k6 (by omega)
      have B3_6 : Arr w2.heap.size [.int .i64 u0, .int .i64 u1, .int .i64 u2, .int .i64 u3] w6 := ((B3_5.alloc _).alloc _).kept k6 (by omega)
      have B4_6 : Arr w4.heap.size [.int .i64 a0, .int .i64 a1, .int .i64 a2, .int .i64 a3] w6 := ((B4_5.alloc _).alloc _).kept k6 (by omega)
      have B5_6 : Arr w5.heap.size [.int .i64 0, .int .i64 0, .int .i64 0, .int .i64 0] w6 := ((Arr_at _ _ [.int .i64 0, .int .i64 0, .int .i64 0, .int .i64 0] _ (by simp)).alloc _).kept k6 (by omega)
      have z6 := f6.lies
      clear hHeld
      refine hK.out _ _ ⟨B4_6, B3_6⟩ (fun hHeld => ?_)
      clear hK K K5 B0_5 B1_5 B2_5 B3_5 B4_5 k6
      refine call_at (i := 7) (by kernel_rfl) rfl (fun K hK => ?_)
      have c8_B5_0 : w6.cell? ⟨w5.heap.size, 0, none⟩ = some (.int .i64 0) := B5_6.c 0 (of_decide_eq_true rfl)
      have c8_B5_1 : w6.cell? ⟨w5.heap.size, 1, none⟩ = some (.int .i64 0) := B5_6.c 1 (of_decide_eq_true rfl)
      have c8_B5_2 : w6.cell? ⟨w5.heap.size, 2, none⟩ = some (.int .i64 0) := B5_6.c 2 (of_decide_eq_true rfl)
      have c8_B5_3 : w6.cell? ⟨w5.heap.size, 3, none⟩ = some (.int .i64 0) := B5_6.c 3 (of_decide_eq_true rfl)
      have g8_B5_0 := B5_6.f 0 (of_decide_eq_true rfl)
      have g8_B5_1 := B5_6.f 1 (of_decide_eq_true rfl)
      have g8_B5_2 := B5_6.f 2 (of_decide_eq_true rfl)
      have g8_B5_3 := B5_6.f 3 (of_decide_eq_true rfl)
      go_simp
      clear hHeld
      refine hK.out _ _ ⟨((((B4_6.new w5.heap.size 0 (by omega) (.int .i64 o0)).new w5.heap.size 1 (by omega) (.int .i64 o1)).new w5.heap.size 2 (by omega) (.int .i64 o2)).new w5.heap.size 3 (by omega) (.int .i64 o3)), ((((B3_6.new w5.heap.size 0 (by omega) (.int .i64 o0)).new w5.heap.size 1 (by omega) (.int .i64 o1)).new w5.heap.size 2 (by omega) (.int .i64 o2)).new w5.heap.size 3 (by omega) (.int .i64 o3))⟩ (fun hHeld => ?_)
      clear hK K c8_B5_0 c8_B5_1 c8_B5_2 c8_B5_3 g8_B5_0 g8_B5_1 g8_B5_2 g8_B5_3
      refine wpAnyH_done (by kernel_rfl) ?_ _
      clear hHeld
      exact cont1 _ _ _ _ _ _ _ _ _ _ _ _ _ _ _ _ _ _ _ _ _ _ (w5.heap.size + 1) w5.heap.size (bel_new (bel_new (bel_new (bel_new K6 _ _ (by omega) _) _ _ (by omega) _) _ _ (by omega) _) _ _ (by omega) _) ((((B0_6.new w5.heap.size 0 (by omega) (.int .i64 o0)).new w5.heap.size 1 (by omega) (.int .i64 o1)).new w5.heap.size 2 (by omega) (.int .i64 o2)).new w5.heap.size 3 (by omega) (.int .i64 o3)) ((((B1_6.new w5.heap.size 0 (by omega) (.int .i64 o0)).new w5.heap.size 1 (by omega) (.int .i64 o1)).new w5.heap.size 2 (by omega) (.int .i64 o2)).new w5.heap.size 3 (by omega) (.int .i64 o3)) ((((B2_6.new w5.heap.size 0 (by omega) (.int .i64 o0)).new w5.heap.size 1 (by omega) (.int .i64 o1)).new w5.heap.size 2 (by omega) (.int .i64 o2)).new w5.heap.size 3 (by omega) (.int .i64 o3)) ((((B3_6.new w5.heap.size 0 (by omega) (.int .i64 o0)).new w5.heap.size 1 (by omega) (.int .i64 o1)).new w5.heap.size 2 (by omega) (.int .i64 o2)).new w5.heap.size 3 (by omega) (.int .i64 o3)) ((((B4_6.new w5.heap.size 0 (by omega) (.int .i64 o0)).new w5.heap.size 1 (by omega) (.int .i64 o1)).new w5.heap.size 2 (by omega) (.int .i64 o2)).new w5.heap.size 3 (by omega) (.int .i64 o3)) ((((f6.new w5.heap.size 0 (by omega) (.int .i64 o0)).new w5.heap.size 1 (by omega) (.int .i64 o1)).new w5.heap.size 2 (by omega) (.int .i64 o2)).new w5.heap.size 3 (by omega) (.int .i64 o3)) ((((B5_6.put 0 (of_decide_eq_true rfl) (.int .i64 o0) [.int .i64 o0, .int .i64 0, .int .i64 0, .int .i64 0] rfl).put 1 (of_decide_eq_true rfl) (.int .i64 o1) [.int .i64 o0, .int .i64 o1, .int .i64 0, .int .i64 0] rfl).put 2 (of_decide_eq_true rfl) (.int .i64 o2) [.int .i64 o0, .int .i64 o1, .int .i64 o2, .int .i64 0] rfl).put 3 (of_decide_eq_true rfl) (.int .i64 o3) [.int .i64 o0, .int .i64 o1, .int .i64 o2, .int .i64 o3] rfl) (by omega) (by omega) (by omega) (by omega) (by omega) (by omega) (by omega) (by omega) (by omega) (by omega) (by omega) (by omega) (by omega)
  · go_simp
    clear hHeld
    refine hK.out _ _ ⟨((Arr_at _ _ [.int .i64 a0, .int .i64 a1, .int .i64 a2, .int .i64 a3] _ (by simp)).alloc _).drew, ((B3_4.alloc _).alloc _).drew⟩ (fun hHeld => ?_)
    clear hK K
    refine call_at2 (i0 := 1) (i1 := 4) (by kernel_rfl) rfl rfl (fun K hK => ?_) (fun K hK => ?_)
    · go_simp
      clear hHeld
      refine hK.out _ _ ⟨(((Arr_at _ _ [.int .i64 a0, .int .i64 a1, .int .i64 a2, .int .i64 a3] _ (by simp)).alloc _).alloc _).drew, (((B3_4.alloc _).alloc _).alloc _).drew⟩ (fun hHeld => ?_)
      clear hK K
      refine call_at (i := 4) (by kernel_rfl) rfl (fun K hK => ?_)
      go_simp
      refine (yBack_any (u0, u1, u2, u3) _).mono ?_
      rintro e w5 ⟨rfl, k5⟩
      rw [hb]
      try dsimp only
      have K5 : Below w.heap.size w w5 := bel_then (Below.drew (bel_al (bel_al (bel_al K4 _) _) _)) k5
      have B0_5 : Arr w.heap.size [.int .i64 q.1, .int .i64 q.2.1, .int .i64 q.2.2.1, .int .i64 q.2.2.2] w5 := (((B0_4.alloc _).alloc _).alloc _).drew.below k5
      have B1_5 : Arr (w.heap.size + 1) [.int .i64 p.1, .int .i64 p.2.1, .int .i64 p.2.2] w5 := (((B1_4.alloc _).alloc _).alloc _).drew.below k5
      have B2_5 : Fl w1.heap.size false w5 := (((f4.alloc _).alloc _).alloc _).drew.below k5
      have B3_5 : Arr w2.heap.size [.int .i64 u0, .int .i64 u1, .int .i64 u2, .int .i64 u3] w5 := (((B3_4.alloc _).alloc _).alloc _).drew.below k5
      have B4_5 : Arr w4.heap.size [.int .i64 a0, .int .i64 a1, .int .i64 a2, .int .i64 a3] w5 := (((Arr_at _ _ [.int .i64 a0, .int .i64 a1, .int .i64 a2, .int .i64 a3] _ (by simp)).alloc _).alloc _).drew.below k5
      have B5_5 : Arr (w4.heap.size + 1) [.int .i64 0, .int .i64 0, .int .i64 0, .int .i64 0] w5 := ((Arr_at _ _ [.int .i64 0, .int .i64 0, .int .i64 0, .int .i64 0] _ (by simp)).alloc _).drew.below k5
      have B6_5 : Fl (w4.heap.size + 1 + 1) false w5 := (Fl_at _ _ _ _ (by simp)).drew.below k5
      have z5 := B6_5.lies
      clear hHeld
      refine hK.out _ _ ⟨B4_5, B3_5⟩ (fun hHeld => ?_)
      clear hK K K4 B0_4 B1_4 f4 B3_4 k5
      refine call_at (i := 5) (by kernel_rfl) rfl (fun K hK => ?_)
      go_simp
      refine (yMul_any (w4.heap.size + 1 + 1) false (a0, a1, a2, a3) ((-u0), (-u1), (-u2), u3) _ B6_5).mono ?_
      rintro e w6 ⟨rfl, f6, k6⟩
      rw [hd] at f6 ⊢
      dsimp only at f6 ⊢
      have K6 : Below w.heap.size w w6 := k6.on K5 (by omega)
      have B0_6 : Arr w.heap.size [.int .i64 q.1, .int .i64 q.2.1, .int .i64 q.2.2.1, .int .i64 q.2.2.2] w6 := B0_5.kept k6 (by omega)
      have B1_6 : Arr (w.heap.size + 1) [.int .i64 p.1, .int .i64 p.2.1, .int .i64 p.2.2] w6 := B1_5.kept k6 (by omega)
      have B2_6 : Fl w1.heap.size false w6 := B2_5.kept k6 (by omega)
      have B3_6 : Arr w2.heap.size [.int .i64 u0, .int .i64 u1, .int .i64 u2, .int .i64 u3] w6 := B3_5.kept k6 (by omega)
      have B4_6 : Arr w4.heap.size [.int .i64 a0, .int .i64 a1, .int .i64 a2, .int .i64 a3] w6 := B4_5.kept k6 (by omega)
      have B5_6 : Arr (w4.heap.size + 1) [.int .i64 0, .int .i64 0, .int .i64 0, .int .i64 0] w6 := B5_5.kept k6 (by omega)
      have z6 := f6.lies
      clear hHeld
      refine hK.out _ _ ⟨B4_6, B3_6⟩ (fun hHeld => ?_)
      clear hK K K5 B0_5 B1_5 B2_5 B3_5 B4_5 B5_5 B6_5 k6
      refine call_at (i := 7) (by kernel_rfl) rfl (fun K hK => ?_)
      have c8_B5_0 : w6.cell? ⟨w4.heap.size + 1, 0, none⟩ = some (.int .i64 0) := B5_6.c 0 (of_decide_eq_true rfl)
      have c8_B5_1 : w6.cell? ⟨w4.heap.size + 1, 1, none⟩ = some (.int .i64 0) := B5_6.c 1 (of_decide_eq_true rfl)
      have c8_B5_2 : w6.cell? ⟨w4.heap.size + 1, 2, none⟩ = some (.int .i64 0) := B5_6.c 2 (of_decide_eq_true rfl)
      have c8_B5_3 : w6.cell? ⟨w4.heap.size + 1, 3, none⟩ = some (.int .i64 0) := B5_6.c 3 (of_decide_eq_true rfl)
      have g8_B5_0 := B5_6.f 0 (of_decide_eq_true rfl)
      have g8_B5_1 := B5_6.f 1 (of_decide_eq_true rfl)
      have g8_B5_2 := B5_6.f 2 (of_decide_eq_true rfl)
      have g8_B5_3 := B5_6.f 3 (of_decide_eq_true rfl)
      go_simp
      clear hHeld
      refine hK.out _ _ ⟨((((B4_6.new (w4.heap.size + 1) 0 (by omega) (.int .i64 o0)).new (w4.heap.size + 1) 1 (by omega) (.int .i64 o1)).new (w4.heap.size + 1) 2 (by omega) (.int .i64 o2)).new (w4.heap.size + 1) 3 (by omega) (.int .i64 o3)), ((((B3_6.new (w4.heap.size + 1) 0 (by omega) (.int .i64 o0)).new (w4.heap.size + 1) 1 (by omega) (.int .i64 o1)).new (w4.heap.size + 1) 2 (by omega) (.int .i64 o2)).new (w4.heap.size + 1) 3 (by omega) (.int .i64 o3))⟩ (fun hHeld => ?_)
      clear hK K c8_B5_0 c8_B5_1 c8_B5_2 c8_B5_3 g8_B5_0 g8_B5_1 g8_B5_2 g8_B5_3
      refine wpAnyH_done (by kernel_rfl) ?_ _
      clear hHeld
      exact cont1 _ _ _ _ _ _ _ _ _ _ _ _ _ _ _ _ _ _ _ _ _ _ (w4.heap.size + 1 + 1) (w4.heap.size + 1) (bel_new (bel_new (bel_new (bel_new K6 _ _ (by omega) _) _ _ (by omega) _) _ _ (by omega) _) _ _ (by omega) _) ((((B0_6.new (w4.heap.size + 1) 0 (by omega) (.int .i64 o0)).new (w4.heap.size + 1) 1 (by omega) (.int .i64 o1)).new (w4.heap.size + 1) 2 (by omega) (.int .i64 o2)).new (w4.heap.size + 1) 3 (by omega) (.int .i64 o3)) ((((B1_6.new (w4.heap.size + 1) 0 (by omega) (.int .i64 o0)).new (w4.heap.size + 1) 1 (by omega) (.int .i64 o1)).new (w4.heap.size + 1) 2 (by omega) (.int .i64 o2)).new (w4.heap.size + 1) 3 (by omega) (.int .i64 o3)) ((((B2_6.new (w4.heap.size + 1) 0 (by omega) (.int .i64 o0)).new (w4.heap.size + 1) 1 (by omega) (.int .i64 o1)).new (w4.heap.size + 1) 2 (by omega) (.int .i64 o2)).new (w4.heap.size + 1) 3 (by omega) (.int .i64 o3)) ((((B3_6.new (w4.heap.size + 1) 0 (by omega) (.int .i64 o0)).new (w4.heap.size + 1) 1 (by omega) (.int .i64 o1)).new (w4.heap.size + 1) 2 (by omega) (.int .i64 o2)).new (w4.heap.size + 1) 3 (by omega) (.int .i64 o3)) ((((B4_6.new (w4.heap.size + 1) 0 (by omega) (.int .i64 o0)).new (w4.heap.size + 1) 1 (by omega) (.int .i64 o1)).new (w4.heap.size + 1) 2 (by omega) (.int .i64 o2)).new (w4.heap.size + 1) 3 (by omega) (.int .i64 o3)) ((((f6.new (w4.heap.size + 1) 0 (by omega) (.int .i64 o0)).new (w4.heap.size + 1) 1 (by omega) (.int .i64 o1)).new (w4.heap.size + 1) 2 (by omega) (.int .i64 o2)).new (w4.heap.size + 1) 3 (by omega) (.int .i64 o3)) ((((B5_6.put 0 (of_decide_eq_true rfl) (.int .i64 o0) [.int .i64 o0, .int .i64 0, .int .i64 0, .int .i64 0] rfl).put 1 (of_decide_eq_true rfl) (.int .i64 o1) [.int .i64 o0, .int .i64 o1, .int .i64 0, .int .i64 0] rfl).put 2 (of_decide_eq_true rfl) (.int .i64 o2) [.int .i64 o0, .int .i64 o1, .int .i64 o2, .int .i64 0] rfl).put 3 (of_decide_eq_true rfl) (.int .i64 o3) [.int .i64 o0, .int .i64 o1, .int .i64 o2, .int .i64 o3] rfl) (by omega) (by omega) (by omega) (by omega) (by omega) (by omega) (by omega) (by omega) (by omega) (by omega) (by omega) (by omega) (by omega)
    · go_simp
      refine (yBack_any (u0, u1, u2, u3) _).mono ?_
      rintro e w5 ⟨rfl, k5⟩
      rw [hb]
      try dsimp only
      have K5 : Below w.heap.size w w5 := bel_then (Below.drew (bel_al (bel_al K4 _) _)) k5
      have B0_5 : Arr w.heap.size [.int .i64 q.1, .int .i64 q.2.1, .int .i64 q.2.2.1, .int .i64 q.2.2.2] w5 := ((B0_4.alloc _).alloc _).drew.below k5
      have B1_5 : Arr (w.heap.size + 1) [.int .i64 p.1, .int .i64 p.2.1, .int .i64 p.2.2] w5 := ((B1_4.alloc _).alloc _).drew.below k5
      have B2_5 : Fl w1.heap.size false w5 := ((f4.alloc _).alloc _).drew.below k5
      have B3_5 : Arr w2.heap.size [.int .i64 u0, .int .i64 u1, .int .i64 u2, .int .i64 u3] w5 := ((B3_4.alloc _).alloc _).drew.below k5
      have B4_5 : Arr w4.heap.size [.int .i64 a0, .int .i64 a1, .int .i64 a2, .int .i64 a3] w5 := ((Arr_at _ _ [.int .i64 a0, .int .i64 a1, .int .i64 a2, .int .i64 a3] _ (by simp)).alloc _).drew.below k5
      have B5_5 : Arr (w4.heap.size + 1) [.int .i64 0, .int .i64 0, .int .i64 0, .int .i64 0] w5 := (Arr_at _ _ [.int .i64 0, .int .i64 0, .int .i64 0, .int .i64 0] _ (by simp)).drew.below k5
      have z5 := B5_5.lies
      clear hHeld
      refine hK.out _ _ ⟨B4_5, B3_5⟩ (fun hHeld => ?_)
      clear hK K K4 B0_4 B1_4 f4 B3_4 k5
      refine call_at (i := 1) (by kernel_rfl) rfl (fun K hK => ?_)
      go_simp
      clear hHeld
      refine hK.out _ _ ⟨(B4_5.alloc _), (B3_5.alloc _)⟩ (fun hHeld => ?_)
      clear hK K
      refine call_at (i := 5) (by kernel_rfl) rfl (fun K hK => ?_)
      go_simp
      refine (yMul_any w5.heap.size false (a0, a1, a2, a3) ((-u0), (-u1), (-u2), u3) _ (Fl_at _ _ _ _ (by simp))).mono ?_
      rintro e w6 ⟨rfl, f6, k6⟩
      rw [hd] at f6 ⊢
      dsimp only at f6 ⊢
      have K6 : Below w.heap.size w w6 := k6.on (bel_al K5 _) (by omega)
      have B0_6 : Arr w.heap.size [.int .i64 q.1, .int .i64 q.2.1, .int .i64 q.2.2.1, .int .i64 q.2.2.2] w6 := (B0_5.alloc _).kept k6 (by omega)
      have B1_6 : Arr (w.heap.size + 1) [.int .i64 p.1, .int .i64 p.2.1, .int .i64 p.2.2] w6 := (B1_5.alloc _).kept k6 (by omega)
      have B2_6 : Fl w1.heap.size false w6 := (B2_5.alloc _).kept k6 (by omega)
      have B3_6 : Arr w2.heap.size [.int .i64 u0, .int .i64 u1, .int .i64 u2, .int .i64 u3] w6 := (B3_5.alloc _).kept k6 (by omega)
      have B4_6 : Arr w4.heap.size [.int .i64 a0, .int .i64 a1, .int .i64 a2, .int .i64 a3] w6 := (B4_5.alloc _).kept k6 (by omega)
      have B5_6 : Arr (w4.heap.size + 1) [.int .i64 0, .int .i64 0, .int .i64 0, .int .i64 0] w6 := (B5_5.alloc _).kept k6 (by omega)
      have z6 := f6.lies
      clear hHeld
      refine hK.out _ _ ⟨B4_6, B3_6⟩ (fun hHeld => ?_)
      clear hK K K5 B0_5 B1_5 B2_5 B3_5 B4_5 B5_5 k6
      refine call_at (i := 7) (by kernel_rfl) rfl (fun K hK => ?_)
      have c8_B5_0 : w6.cell? ⟨w4.heap.size + 1, 0, none⟩ = some (.int .i64 0) := B5_6.c 0 (of_decide_eq_true rfl)
      have c8_B5_1 : w6.cell? ⟨w4.heap.size + 1, 1, none⟩ = some (.int .i64 0) := B5_6.c 1 (of_decide_eq_true rfl)
      have c8_B5_2 : w6.cell? ⟨w4.heap.size + 1, 2, none⟩ = some (.int .i64 0) := B5_6.c 2 (of_decide_eq_true rfl)
      have c8_B5_3 : w6.cell? ⟨w4.heap.size + 1, 3, none⟩ = some (.int .i64 0) := B5_6.c 3 (of_decide_eq_true rfl)
      have g8_B5_0 := B5_6.f 0 (of_decide_eq_true rfl)
      have g8_B5_1 := B5_6.f 1 (of_decide_eq_true rfl)
      have g8_B5_2 := B5_6.f 2 (of_decide_eq_true rfl)
      have g8_B5_3 := B5_6.f 3 (of_decide_eq_true rfl)
      go_simp
      clear hHeld
      refine hK.out _ _ ⟨((((B4_6.new (w4.heap.size + 1) 0 (by omega) (.int .i64 o0)).new (w4.heap.size + 1) 1 (by omega) (.int .i64 o1)).new (w4.heap.size + 1) 2 (by omega) (.int .i64 o2)).new (w4.heap.size + 1) 3 (by omega) (.int .i64 o3)), ((((B3_6.new (w4.heap.size + 1) 0 (by omega) (.int .i64 o0)).new (w4.heap.size + 1) 1 (by omega) (.int .i64 o1)).new (w4.heap.size + 1) 2 (by omega) (.int .i64 o2)).new (w4.heap.size + 1) 3 (by omega) (.int .i64 o3))⟩ (fun hHeld => ?_)
      clear hK K c8_B5_0 c8_B5_1 c8_B5_2 c8_B5_3 g8_B5_0 g8_B5_1 g8_B5_2 g8_B5_3
      refine wpAnyH_done (by kernel_rfl) ?_ _
      clear hHeld
      exact cont1 _ _ _ _ _ _ _ _ _ _ _ _ _ _ _ _ _ _ _ _ _ _ w5.heap.size (w4.heap.size + 1) (bel_new (bel_new (bel_new (bel_new K6 _ _ (by omega) _) _ _ (by omega) _) _ _ (by omega) _) _ _ (by omega) _) ((((B0_6.new (w4.heap.size + 1) 0 (by omega) (.int .i64 o0)).new (w4.heap.size + 1) 1 (by omega) (.int .i64 o1)).new (w4.heap.size + 1) 2 (by omega) (.int .i64 o2)).new (w4.heap.size + 1) 3 (by omega) (.int .i64 o3)) ((((B1_6.new (w4.heap.size + 1) 0 (by omega) (.int .i64 o0)).new (w4.heap.size + 1) 1 (by omega) (.int .i64 o1)).new (w4.heap.size + 1) 2 (by omega) (.int .i64 o2)).new (w4.heap.size + 1) 3 (by omega) (.int .i64 o3)) ((((B2_6.new (w4.heap.size + 1) 0 (by omega) (.int .i64 o0)).new (w4.heap.size + 1) 1 (by omega) (.int .i64 o1)).new (w4.heap.size + 1) 2 (by omega) (.int .i64 o2)).new (w4.heap.size + 1) 3 (by omega) (.int .i64 o3)) ((((B3_6.new (w4.heap.size + 1) 0 (by omega) (.int .i64 o0)).new (w4.heap.size + 1) 1 (by omega) (.int .i64 o1)).new (w4.heap.size + 1) 2 (by omega) (.int .i64 o2)).new (w4.heap.size + 1) 3 (by omega) (.int .i64 o3)) ((((B4_6.new (w4.heap.size + 1) 0 (by omega) (.int .i64 o0)).new (w4.heap.size + 1) 1 (by omega) (.int .i64 o1)).new (w4.heap.size + 1) 2 (by omega) (.int .i64 o2)).new (w4.heap.size + 1) 3 (by omega) (.int .i64 o3)) ((((f6.new (w4.heap.size + 1) 0 (by omega) (.int .i64 o0)).new (w4.heap.size + 1) 1 (by omega) (.int .i64 o1)).new (w4.heap.size + 1) 2 (by omega) (.int .i64 o2)).new (w4.heap.size + 1) 3 (by omega) (.int .i64 o3)) ((((B5_6.put 0 (of_decide_eq_true rfl) (.int .i64 o0) [.int .i64 o0, .int .i64 0, .int .i64 0, .int .i64 0] rfl).put 1 (of_decide_eq_true rfl) (.int .i64 o1) [.int .i64 o0, .int .i64 o1, .int .i64 0, .int .i64 0] rfl).put 2 (of_decide_eq_true rfl) (.int .i64 o2) [.int .i64 o0, .int .i64 o1, .int .i64 o2, .int .i64 0] rfl).put 3 (of_decide_eq_true rfl) (.int .i64 o3) [.int .i64 o0, .int .i64 o1, .int .i64 o2, .int .i64 o3] rfl) (by omega) (by omega) (by omega) (by omega) (by omega) (by omega) (by omega) (by omega) (by omega) (by omega) (by omega) (by omega) (by omega)
theorem QuatThere_any (q : V4) (p : V3) (w : World) (v0 : -9223372036854775808 ≤ p.1 ∧ p.1 ≤ 9223372036854775807) (v1 : -9223372036854775808 ≤ p.2.1 ∧ p.2.1 ≤ 9223372036854775807) (v2 : -9223372036854775808 ≤ p.2.2 ∧ p.2.2 ≤ 9223372036854775807) :
    Calls Try.prog 4 #[.agg #[.int .i64 q.1, .int .i64 q.2.1, .int .i64 q.2.2.1, .int .i64 q.2.2.2], .agg #[.int .i64 p.1, .int .i64 p.2.1, .int .i64 p.2.2]] w fun e w' => e = .returned (.bool true) ∧ Below w.heap.size w w' := by
  have rod : nearS p (0, 0, 0) 1099511627776 = true → ∃ s0 s1 s2 s3 t0 t1 t2, qFromRodS false p = ((s0, s1, s2, s3), false) ∧ qToRodS false (s0, s1, s2, s3) = ((t0, t1, t2), false) ∧ Ab (t0 - p.1) 1024 ∧ Ab (t1 - p.2.1) 1024 ∧ Ab (t2 - p.2.2) 1024 := by
    intro hp
    have g := near_get hp
    have a0 : Ab p.1 1099511627776 := ⟨by have := g.1.lo; simpa using this, by have := g.1.hi; simpa using this⟩
    have a1 : Ab p.2.1 1099511627776 := ⟨by have := g.2.1.lo; simpa using this, by have := g.2.1.hi; simpa using this⟩
    have a2 : Ab p.2.2 1099511627776 := ⟨by have := g.2.2.lo; simpa using this, by have := g.2.2.hi; simpa using this⟩
    exact rod_math a0 a1 a2
  rcases unit_math q with h | ⟨u0, u1, u2, u3, h, U⟩
  · cases hp : nearS p (0, 0, 0) 1099511627776
    · exact QuatThere_bf q p w h v0 v1 v2 hp
    · obtain ⟨s0, s1, s2, s3, t0, t1, t2, e1, e2, k0, k1, k2⟩ := rod hp
      exact QuatThere_br q p w h s0 s1 s2 s3 t0 t1 t2 v0 v1 v2 hp e1 e2 ⟨k0.lo, k0.hi⟩ ⟨k1.lo, k1.hi⟩ ⟨k2.lo, k2.hi⟩ (near_yes k0 k1 k2)
  · obtain ⟨⟨m0, m1, m2, m3, m4, m5, m6, m7, m8⟩, a0, a1, a2, a3, o0, o1, o2, o3, hm, hf, hd, c0, c1, c2⟩ := there_math U
    have hb : qBackS (u0, u1, u2, u3) = (-u0, -u1, -u2, u3) := by
      unfold qBackS
      have := U.a0.lo; have := U.a0.hi; have := U.a1.lo; have := U.a1.hi; have := U.a2.lo; have := U.a2.hi
      dsimp only
      rw [minusS_in (by omega) (by omega), minusS_in (by omega) (by omega), minusS_in (by omega) (by omega)]
    have hn : nearS (o0, o1, o2) (0, 0, 0) 1024 = true := near_yes (by simpa using c0) (by simpa using c1) (by simpa using c2)
    cases hp : nearS p (0, 0, 0) 1099511627776
    · exact QuatThere_gf q p w u0 u1 u2 u3 m0 m1 m2 m3 m4 m5 m6 m7 m8 a0 a1 a2 a3 o0 o1 o2 o3 h hm hf hb hd ⟨c0.lo, c0.hi⟩ ⟨c1.lo, c1.hi⟩ ⟨c2.lo, c2.hi⟩ hn v0 v1 v2 hp
    · obtain ⟨s0, s1, s2, s3, t0, t1, t2, e1, e2, k0, k1, k2⟩ := rod hp
      exact QuatThere_gr q p w u0 u1 u2 u3 m0 m1 m2 m3 m4 m5 m6 m7 m8 a0 a1 a2 a3 o0 o1 o2 o3 h hm hf hb hd ⟨c0.lo, c0.hi⟩ ⟨c1.lo, c1.hi⟩ ⟨c2.lo, c2.hi⟩ hn s0 s1 s2 s3 t0 t1 t2 v0 v1 v2 hp e1 e2 ⟨k0.lo, k0.hi⟩ ⟨k1.lo, k1.hi⟩ ⟨k2.lo, k2.hi⟩ (near_yes k0 k1 k2)
end Go.Proofs.Yteooceapkkdcpab
