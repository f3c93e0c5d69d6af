/-
  Walks of package quat's matrices, for the seat Yteooceapkkdcpab. (Made by mkquat2.py.)
-/
import Derived.Test.YteooceapkkdcpabQMSpec
import Derived.Test.YteooceapkkdcpabQTurn
import Derived.Handy
import Derived.Deep.RegionHeld3
namespace Go.Proofs.Yteooceapkkdcpab
open Go.RowKit

set_option maxHeartbeats 400000 in
theorem sound9_any (b : Nat) (bad : Bool) (v : V9) (w : World) (hw : Fl b bad w) :
    Calls Try.prog 32 #[.pointer (some ⟨b, 0, none⟩), .agg #[.int .i64 v.1, .int .i64 v.2.1, .int .i64 v.2.2.1, .int .i64 v.2.2.2.1, .int .i64 v.2.2.2.2.1, .int .i64 v.2.2.2.2.2.1, .int .i64 v.2.2.2.2.2.2.1, .int .i64 v.2.2.2.2.2.2.2.1, .int .i64 v.2.2.2.2.2.2.2.2]] w fun e w' => e = .returned (.agg #[.int .i64 (sound9S bad v).1.1, .int .i64 (sound9S bad v).1.2.1, .int .i64 (sound9S bad v).1.2.2.1, .int .i64 (sound9S bad v).1.2.2.2.1, .int .i64 (sound9S bad v).1.2.2.2.2.1, .int .i64 (sound9S bad v).1.2.2.2.2.2.1, .int .i64 (sound9S bad v).1.2.2.2.2.2.2.1, .int .i64 (sound9S bad v).1.2.2.2.2.2.2.2.1, .int .i64 (sound9S bad v).1.2.2.2.2.2.2.2.2]) ∧ Fl b (sound9S bad v).2 w' ∧ Kept b w w' := by
  have hc := hw.cell
  have hl := hw.lies
  have HW : Hid _ := hw
  clear hw
  cases bad
  · go_enter Try.func32, Try.ntmps32
    go_wp2
    refine bodyPost_ret (v := .agg #[.int .i64 v.1, .int .i64 v.2.1, .int .i64 v.2.2.1, .int .i64 v.2.2.2.1, .int .i64 v.2.2.2.2.1, .int .i64 v.2.2.2.2.2.1, .int .i64 v.2.2.2.2.2.2.1, .int .i64 v.2.2.2.2.2.2.2.1, .int .i64 v.2.2.2.2.2.2.2.2]) (by simp [results, Try.results32, go_sem]) rfl ?_
    exact ⟨rfl, (HW.out.alloc _).alloc _, ((Kept.refl _ _).al _).al _⟩
  · go_enter Try.func32, Try.ntmps32
    go_wp2
    refine bodyPost_ret (v := .agg #[.int .i64 0, .int .i64 0, .int .i64 0, .int .i64 0, .int .i64 0, .int .i64 0, .int .i64 0, .int .i64 0, .int .i64 0]) (by simp [results, Try.results32, go_sem]) rfl ?_
    exact ⟨rfl, ((HW.out.alloc _).alloc _).alloc _, (((Kept.refl _ _).al _).al _).al _⟩

set_option maxRecDepth 100000 in
set_option maxHeartbeats 2000000 in
theorem qMatrix_any (b : Nat) (bad : Bool) (q : V4) (w : World) (hw : Fl b bad w) :
    Calls Try.prog 11 #[.pointer (some ⟨b, 0, none⟩), .agg #[.int .i64 q.1, .int .i64 q.2.1, .int .i64 q.2.2.1, .int .i64 q.2.2.2]] w fun e w' => e = .returned (.agg #[.int .i64 ((qMatrixS bad q).1.1), .int .i64 ((qMatrixS bad q).1.2.1), .int .i64 ((qMatrixS bad q).1.2.2.1), .int .i64 ((qMatrixS bad q).1.2.2.2.1), .int .i64 ((qMatrixS bad q).1.2.2.2.2.1), .int .i64 ((qMatrixS bad q).1.2.2.2.2.2.1), .int .i64 ((qMatrixS bad q).1.2.2.2.2.2.2.1), .int .i64 ((qMatrixS bad q).1.2.2.2.2.2.2.2.1), .int .i64 ((qMatrixS bad q).1.2.2.2.2.2.2.2.2)]) ∧ Fl b (qMatrixS bad q).2 w' ∧ Kept b w w' := by
  have hl := hw.lies
  go_enter Try.func11, Try.ntmps11
  go_wp2_with fail
  refine (qTurn_any b bad q (1099511627776, 0, 0) _ ((hw.alloc _).alloc _)).mono ?_
  rintro e w1 ⟨rfl, f1, k1⟩
  generalize e1 : qTurnS bad q (1099511627776, 0, 0) = r1 at f1 ⊢
  have E1 : Hid _ := e1
  clear e1
  have K1 : Kept b w w1 := Kept.trans (((Kept.refl b w).al _).al _) k1
  have B0_1 : Arr w.heap.size [.int .i64 q.1, .int .i64 q.2.1, .int .i64 q.2.2.1, .int .i64 q.2.2.2] w1 := ((Arr_at _ _ [.int .i64 q.1, .int .i64 q.2.1, .int .i64 q.2.2.1, .int .i64 q.2.2.2] _ (by simp)).alloc _).kept k1 (by omega)
  have B1_1 : Arr (w.heap.size + 1) [.int .i64 0, .int .i64 0, .int .i64 0, .int .i64 0, .int .i64 0, .int .i64 0, .int .i64 0, .int .i64 0, .int .i64 0] w1 := (Arr_at _ _ [.int .i64 0, .int .i64 0, .int .i64 0, .int .i64 0, .int .i64 0, .int .i64 0, .int .i64 0, .int .i64 0, .int .i64 0] _ (by simp)).kept k1 (by omega)
  have z1 := B1_1.lies
  clear k1
  have c2_B0_0 : w1.cell? ⟨w.heap.size, 0, none⟩ = some (.int .i64 q.1) := B0_1.c 0 (of_decide_eq_true rfl)
  have c2_B0_1 : w1.cell? ⟨w.heap.size, 1, none⟩ = some (.int .i64 q.2.1) := B0_1.c 1 (of_decide_eq_true rfl)
  have c2_B0_2 : w1.cell? ⟨w.heap.size, 2, none⟩ = some (.int .i64 q.2.2.1) := B0_1.c 2 (of_decide_eq_true rfl)
  have c2_B0_3 : w1.cell? ⟨w.heap.size, 3, none⟩ = some (.int .i64 q.2.2.2) := B0_1.c 3 (of_decide_eq_true rfl)
  have l2_B0 := B0_1.lies
  go_wp2_with fail
  refine (qTurn_any b r1.2 q (0, 1099511627776, 0) _ (f1.alloc _)).mono ?_
  rintro e w2 ⟨rfl, f2, k2⟩
  generalize e2 : qTurnS r1.2 q (0, 1099511627776, 0) = r2 at f2 ⊢
  have E2 : Hid _ := e2
  clear e2
  have K2 : Kept b w w2 := Kept.trans (K1.al _) k2
  have B0_2 : Arr w.heap.size [.int .i64 q.1, .int .i64 q.2.1, .int .i64 q.2.2.1, .int .i64 q.2.2.2] w2 := (B0_1.alloc _).kept k2 (by omega)
  have B1_2 : Arr (w.heap.size + 1) [.int .i64 0, .int .i64 0, .int .i64 0, .int .i64 0, .int .i64 0, .int .i64 0, .int .i64 0, .int .i64 0, .int .i64 0] w2 := (B1_1.alloc _).kept k2 (by omega)
  have B2_2 : Arr w1.heap.size [.int .i64 r1.1.1, .int .i64 r1.1.2.1, .int .i64 r1.1.2.2] w2 := (Arr_at _ _ [.int .i64 r1.1.1, .int .i64 r1.1.2.1, .int .i64 r1.1.2.2] _ (by simp)).kept k2 (by omega)
  have z2 := B2_2.lies
  clear c2_B0_0 c2_B0_1 c2_B0_2 c2_B0_3 l2_B0 K1 f1 B0_1 B1_1 k2
  have c3_B0_0 : w2.cell? ⟨w.heap.size, 0, none⟩ = some (.int .i64 q.1) := B0_2.c 0 (of_decide_eq_true rfl)
  have c3_B0_1 : w2.cell? ⟨w.heap.size, 1, none⟩ = some (.int .i64 q.2.1) := B0_2.c 1 (of_decide_eq_true rfl)
  have c3_B0_2 : w2.cell? ⟨w.heap.size, 2, none⟩ = some (.int .i64 q.2.2.1) := B0_2.c 2 (of_decide_eq_true rfl)
  have c3_B0_3 : w2.cell? ⟨w.heap.size, 3, none⟩ = some (.int .i64 q.2.2.2) := B0_2.c 3 (of_decide_eq_true rfl)
  have l3_B0 := B0_2.lies
  go_wp2_with fail
  refine (qTurn_any b r2.2 q (0, 0, 1099511627776) _ (f2.alloc _)).mono ?_
  rintro e w3 ⟨rfl, f3, k3⟩
  generalize e3 : qTurnS r2.2 q (0, 0, 1099511627776) = r3 at f3 ⊢
  have E3 : Hid _ := e3
  clear e3
  have K3 : Kept b w w3 := Kept.trans (K2.al _) k3
  have B0_3 : Arr w.heap.size [.int .i64 q.1, .int .i64 q.2.1, .int .i64 q.2.2.1, .int .i64 q.2.2.2] w3 := (B0_2.alloc _).kept k3 (by omega)
  have B1_3 : Arr (w.heap.size + 1) [.int .i64 0, .int .i64 0, .int .i64 0, .int .i64 0, .int .i64 0, .int .i64 0, .int .i64 0, .int .i64 0, .int .i64 0] w3 := (B1_2.alloc _).kept k3 (by omega)
  have B2_3 : Arr w1.heap.size [.int .i64 r1.1.1, .int .i64 r1.1.2.1, .int .i64 r1.1.2.2] w3 := (B2_2.alloc _).kept k3 (by omega)
  have B3_3 : Arr w2.heap.size [.int .i64 r2.1.1, .int .i64 r2.1.2.1, .int .i64 r2.1.2.2] w3 := (Arr_at _ _ [.int .i64 r2.1.1, .int .i64 r2.1.2.1, .int .i64 r2.1.2.2] _ (by simp)).kept k3 (by omega)
  have z3 := B3_3.lies
  clear c3_B0_0 c3_B0_1 c3_B0_2 c3_B0_3 l3_B0 K2 f2 B0_2 B1_2 B2_2 k3
  have c4_B2_0 : w3.cell? ⟨w1.heap.size, 0, none⟩ = some (.int .i64 r1.1.1) := B2_3.c 0 (of_decide_eq_true rfl)
  have c4_B2_1 : w3.cell? ⟨w1.heap.size, 1, none⟩ = some (.int .i64 r1.1.2.1) := B2_3.c 1 (of_decide_eq_true rfl)
  have c4_B2_2 : w3.cell? ⟨w1.heap.size, 2, none⟩ = some (.int .i64 r1.1.2.2) := B2_3.c 2 (of_decide_eq_true rfl)
  have c4_B3_0 : w3.cell? ⟨w2.heap.size, 0, none⟩ = some (.int .i64 r2.1.1) := B3_3.c 0 (of_decide_eq_true rfl)
  have c4_B3_1 : w3.cell? ⟨w2.heap.size, 1, none⟩ = some (.int .i64 r2.1.2.1) := B3_3.c 1 (of_decide_eq_true rfl)
  have c4_B3_2 : w3.cell? ⟨w2.heap.size, 2, none⟩ = some (.int .i64 r2.1.2.2) := B3_3.c 2 (of_decide_eq_true rfl)
  have l4_B2 := B2_3.lies
  have l4_B3 := B3_3.lies
  go_wp2_with fail
  refine (sound9_any b r3.2 (r1.1.1, r2.1.1, r3.1.1, r1.1.2.1, r2.1.2.1, r3.1.2.1, r1.1.2.2, r2.1.2.2, r3.1.2.2) _ (f3.alloc _)).mono ?_
  rintro e w4 ⟨rfl, f4, k4⟩
  generalize e4 : sound9S r3.2 (r1.1.1, r2.1.1, r3.1.1, r1.1.2.1, r2.1.2.1, r3.1.2.1, r1.1.2.2, r2.1.2.2, r3.1.2.2) = r4 at f4 ⊢
  have E4 : Hid _ := e4
  clear e4
  have K4 : Kept b w w4 := Kept.trans (K3.al _) k4
  have B0_4 : Arr w.heap.size [.int .i64 q.1, .int .i64 q.2.1, .int .i64 q.2.2.1, .int .i64 q.2.2.2] w4 := (B0_3.alloc _).kept k4 (by omega)
  have B1_4 : Arr (w.heap.size + 1) [.int .i64 0, .int .i64 0, .int .i64 0, .int .i64 0, .int .i64 0, .int .i64 0, .int .i64 0, .int .i64 0, .int .i64 0] w4 := (B1_3.alloc _).kept k4 (by omega)
  have B2_4 : Arr w1.heap.size [.int .i64 r1.1.1, .int .i64 r1.1.2.1, .int .i64 r1.1.2.2] w4 := (B2_3.alloc _).kept k4 (by omega)
  have B3_4 : Arr w2.heap.size [.int .i64 r2.1.1, .int .i64 r2.1.2.1, .int .i64 r2.1.2.2] w4 := (B3_3.alloc _).kept k4 (by omega)
  have B4_4 : Arr w3.heap.size [.int .i64 r3.1.1, .int .i64 r3.1.2.1, .int .i64 r3.1.2.2] w4 := (Arr_at _ _ [.int .i64 r3.1.1, .int .i64 r3.1.2.1, .int .i64 r3.1.2.2] _ (by simp)).kept k4 (by omega)
  have z4 := B4_4.lies
  clear c4_B2_0 c4_B2_1 c4_B2_2 c4_B3_0 c4_B3_1 c4_B3_2 l4_B2 l4_B3 K3 f3 B0_3 B1_3 B2_3 B3_3 k4
  have c5_B1_0 : w4.cell? ⟨w.heap.size + 1, 0, none⟩ = some (.int .i64 0) := B1_4.c 0 (of_decide_eq_true rfl)
  have c5_B1_1 : w4.cell? ⟨w.heap.size + 1, 1, none⟩ = some (.int .i64 0) := B1_4.c 1 (of_decide_eq_true rfl)
  have c5_B1_2 : w4.cell? ⟨w.heap.size + 1, 2, none⟩ = some (.int .i64 0) := B1_4.c 2 (of_decide_eq_true rfl)
  have c5_B1_3 : w4.cell? ⟨w.heap.size + 1, 3, none⟩ = some (.int .i64 0) := B1_4.c 3 (of_decide_eq_true rfl)
  have c5_B1_4 : w4.cell? ⟨w.heap.size + 1, 4, none⟩ = some (.int .i64 0) := B1_4.c 4 (of_decide_eq_true rfl)
  have c5_B1_5 : w4.cell? ⟨w.heap.size + 1, 5, none⟩ = some (.int .i64 0) := B1_4.c 5 (of_decide_eq_true rfl)
  have c5_B1_6 : w4.cell? ⟨w.heap.size + 1, 6, none⟩ = some (.int .i64 0) := B1_4.c 6 (of_decide_eq_true rfl)
  have c5_B1_7 : w4.cell? ⟨w.heap.size + 1, 7, none⟩ = some (.int .i64 0) := B1_4.c 7 (of_decide_eq_true rfl)
  have c5_B1_8 : w4.cell? ⟨w.heap.size + 1, 8, none⟩ = some (.int .i64 0) := B1_4.c 8 (of_decide_eq_true rfl)
  have g5_B1_0 := B1_4.f 0 (of_decide_eq_true rfl)
  have g5_B1_1 := B1_4.f 1 (of_decide_eq_true rfl)
  have g5_B1_2 := B1_4.f 2 (of_decide_eq_true rfl)
  have g5_B1_3 := B1_4.f 3 (of_decide_eq_true rfl)
  have g5_B1_4 := B1_4.f 4 (of_decide_eq_true rfl)
  have g5_B1_5 := B1_4.f 5 (of_decide_eq_true rfl)
  have g5_B1_6 := B1_4.f 6 (of_decide_eq_true rfl)
  have g5_B1_7 := B1_4.f 7 (of_decide_eq_true rfl)
  have g5_B1_8 := B1_4.f 8 (of_decide_eq_true rfl)
  go_wp2
  clear c5_B1_0 c5_B1_1 c5_B1_2 c5_B1_3 c5_B1_4 c5_B1_5 c5_B1_6 c5_B1_7 c5_B1_8 g5_B1_0 g5_B1_1 g5_B1_2 g5_B1_3 g5_B1_4 g5_B1_5 g5_B1_6 g5_B1_7 g5_B1_8
  have d0 := Arr.c (B1_4.put 0 (of_decide_eq_true rfl) (.int .i64 r4.1.1) [.int .i64 r4.1.1, .int .i64 0, .int .i64 0, .int .i64 0, .int .i64 0, .int .i64 0, .int .i64 0, .int .i64 0, .int .i64 0] rfl) 0 (of_decide_eq_true rfl)
  have d1 := Arr.c ((B1_4.put 0 (of_decide_eq_true rfl) (.int .i64 r4.1.1) [.int .i64 r4.1.1, .int .i64 0, .int .i64 0, .int .i64 0, .int .i64 0, .int .i64 0, .int .i64 0, .int .i64 0, .int .i64 0] rfl).put 1 (of_decide_eq_true rfl) (.int .i64 r4.1.2.1) [.int .i64 r4.1.1, .int .i64 r4.1.2.1, .int .i64 0, .int .i64 0, .int .i64 0, .int .i64 0, .int .i64 0, .int .i64 0, .int .i64 0] rfl) 1 (of_decide_eq_true rfl)
  have d2 := Arr.c (((B1_4.put 0 (of_decide_eq_true rfl) (.int .i64 r4.1.1) [.int .i64 r4.1.1, .int .i64 0, .int .i64 0, .int .i64 0, .int .i64 0, .int .i64 0, .int .i64 0, .int .i64 0, .int .i64 0] rfl).put 1 (of_decide_eq_true rfl) (.int .i64 r4.1.2.1) [.int .i64 r4.1.1, .int .i64 r4.1.2.1, .int .i64 0, .int .i64 0, .int .i64 0, .int .i64 0, .int .i64 0, .int .i64 0, .int .i64 0] rfl).put 2 (of_decide_eq_true rfl) (.int .i64 r4.1.2.2.1) [.int .i64 r4.1.1, .int .i64 r4.1.2.1, .int .i64 r4.1.2.2.1, .int .i64 0, .int .i64 0, .int .i64 0, .int .i64 0, .int .i64 0, .int .i64 0] rfl) 2 (of_decide_eq_true rfl)
  have d3 := Arr.c ((((B1_4.put 0 (of_decide_eq_true rfl) (.int .i64 r4.1.1) [.int .i64 r4.1.1, .int .i64 0, .int .i64 0, .int .i64 0, .int .i64 0, .int .i64 0, .int .i64 0, .int .i64 0, .int .i64 0] rfl).put 1 (of_decide_eq_true rfl) (.int .i64 r4.1.2.1) [.int .i64 r4.1.1, .int .i64 r4.1.2.1, .int .i64 0, .int .i64 0, .int .i64 0, .int .i64 0, .int .i64 0, .int .i64 0, .int .i64 0] rfl).put 2 (of_decide_eq_true rfl) (.int .i64 r4.1.2.2.1) [.int .i64 r4.1.1, .int .i64 r4.1.2.1, .int .i64 r4.1.2.2.1, .int .i64 0, .int .i64 0, .int .i64 0, .int .i64 0, .int .i64 0, .int .i64 0] rfl).put 3 (of_decide_eq_true rfl) (.int .i64 r4.1.2.2.2.1) [.int .i64 r4.1.1, .int .i64 r4.1.2.1, .int .i64 r4.1.2.2.1, .int .i64 r4.1.2.2.2.1, .int .i64 0, .int .i64 0, .int .i64 0, .int .i64 0, .int .i64 0] rfl) 3 (of_decide_eq_true rfl)
  have d4 := Arr.c (((((B1_4.put 0 (of_decide_eq_true rfl) (.int .i64 r4.1.1) [.int .i64 r4.1.1, .int .i64 0, .int .i64 0, .int .i64 0, .int .i64 0, .int .i64 0, .int .i64 0, .int .i64 0, .int .i64 0] rfl).put 1 (of_decide_eq_true rfl) (.int .i64 r4.1.2.1) [.int .i64 r4.1.1, .int .i64 r4.1.2.1, .int .i64 0, .int .i64 0, .int .i64 0, .int .i64 0, .int .i64 0, .int .i64 0, .int .i64 0] rfl).put 2 (of_decide_eq_true rfl) (.int .i64 r4.1.2.2.1) [.int .i64 r4.1.1, .int .i64 r4.1.2.1, .int .i64 r4.1.2.2.1, .int .i64 0, .int .i64 0, .int .i64 0, .int .i64 0, .int .i64 0, .int .i64 0] rfl).put 3 (of_decide_eq_true rfl) (.int .i64 r4.1.2.2.2.1) [.int .i64 r4.1.1, .int .i64 r4.1.2.1, .int .i64 r4.1.2.2.1, .int .i64 r4.1.2.2.2.1, .int .i64 0, .int .i64 0, .int .i64 0, .int .i64 0, .int .i64 0] rfl).put 4 (of_decide_eq_true rfl) (.int .i64 r4.1.2.2.2.2.1) [.int .i64 r4.1.1, .int .i64 r4.1.2.1, .int .i64 r4.1.2.2.1, .int .i64 r4.1.2.2.2.1, .int .i64 r4.1.2.2.2.2.1, .int .i64 0, .int .i64 0, .int .i64 0, .int .i64 0] rfl) 4 (of_decide_eq_true rfl)
  have d5 := Arr.c ((((((B1_4.put 0 (of_decide_eq_true rfl) (.int .i64 r4.1.1) [.int .i64 r4.1.1, .int .i64 0, .int .i64 0, .int .i64 0, .int .i64 0, .int .i64 0, .int .i64 0, .int .i64 0, .int .i64 0] rfl).put 1 (of_decide_eq_true rfl) (.int .i64 r4.1.2.1) [.int .i64 r4.1.1, .int .i64 r4.1.2.1, .int .i64 0, .int .i64 0, .int .i64 0, .int .i64 0, .int .i64 0, .int .i64 0, .int .i64 0] rfl).put 2 (of_decide_eq_true rfl) (.int .i64 r4.1.2.2.1) [.int .i64 r4.1.1, .int .i64 r4.1.2.1, .int .i64 r4.1.2.2.1, .int .i64 0, .int .i64 0, .int .i64 0, .int .i64 0, .int .i64 0, .int .i64 0] rfl).put 3 (of_decide_eq_true rfl) (.int .i64 r4.1.2.2.2.1) [.int .i64 r4.1.1, .int .i64 r4.1.2.1, .int .i64 r4.1.2.2.1, .int .i64 r4.1.2.2.2.1, .int .i64 0, .int .i64 0, .int .i64 0, .int .i64 0, .int .i64 0] rfl).put 4 (of_decide_eq_true rfl) (.int .i64 r4.1.2.2.2.2.1) [.int .i64 r4.1.1, .int .i64 r4.1.2.1, .int .i64 r4.1.2.2.1, .int .i64 r4.1.2.2.2.1, .int .i64 r4.1.2.2.2.2.1, .int .i64 0, .int .i64 0, .int .i64 0, .int .i64 0] rfl).put 5 (of_decide_eq_true rfl) (.int .i64 r4.1.2.2.2.2.2.1) [.int .i64 r4.1.1, .int .i64 r4.1.2.1, .int .i64 r4.1.2.2.1, .int .i64 r4.1.2.2.2.1, .int .i64 r4.1.2.2.2.2.1, .int .i64 r4.1.2.2.2.2.2.1, .int .i64 0, .int .i64 0, .int .i64 0] rfl) 5 (of_decide_eq_true rfl)
  have d6 := Arr.c (((((((B1_4.put 0 (of_decide_eq_true rfl) (.int .i64 r4.1.1) [.int .i64 r4.1.1, .int .i64 0, .int .i64 0, .int .i64 0, .int .i64 0, .int .i64 0, .int .i64 0, .int .i64 0, .int .i64 0] rfl).put 1 (of_decide_eq_true rfl) (.int .i64 r4.1.2.1) [.int .i64 r4.1.1, .int .i64 r4.1.2.1, .int .i64 0, .int .i64 0, .int .i64 0, .int .i64 0, .int .i64 0, .int .i64 0, .int .i64 0] rfl).put 2 (of_decide_eq_true rfl) (.int .i64 r4.1.2.2.1) [.int .i64 r4.1.1, .int .i64 r4.1.2.1, .int .i64 r4.1.2.2.1, .int .i64 0, .int .i64 0, .int .i64 0, .int .i64 0, .int .i64 0, .int .i64 0] rfl).put 3 (of_decide_eq_true rfl) (.int .i64 r4.1.2.2.2.1) [.int .i64 r4.1.1, .int .i64 r4.1.2.1, .int .i64 r4.1.2.2.1, .int .i64 r4.1.2.2.2.1, .int .i64 0, .int .i64 0, .int .i64 0, .int .i64 0, .int .i64 0] rfl).put 4 (of_decide_eq_true rfl) (.int .i64 r4.1.2.2.2.2.1) [.int .i64 r4.1.1, .int .i64 r4.1.2.1, .int .i64 r4.1.2.2.1, .int .i64 r4.1.2.2.2.1, .int .i64 r4.1.2.2.2.2.1, .int .i64 0, .int .i64 0, .int .i64 0, .int .i64 0] rfl).put 5 (of_decide_eq_true rfl) (.int .i64 r4.1.2.2.2.2.2.1) [.int .i64 r4.1.1, .int .i64 r4.1.2.1, .int .i64 r4.1.2.2.1, .int .i64 r4.1.2.2.2.1, .int .i64 r4.1.2.2.2.2.1, .int .i64 r4.1.2.2.2.2.2.1, .int .i64 0, .int .i64 0, .int .i64 0] rfl).put 6 (of_decide_eq_true rfl) (.int .i64 r4.1.2.2.2.2.2.2.1) [.int .i64 r4.1.1, .int .i64 r4.1.2.1, .int .i64 r4.1.2.2.1, .int .i64 r4.1.2.2.2.1, .int .i64 r4.1.2.2.2.2.1, .int .i64 r4.1.2.2.2.2.2.1, .int .i64 r4.1.2.2.2.2.2.2.1, .int .i64 0, .int .i64 0] rfl) 6 (of_decide_eq_true rfl)
  have d7 := Arr.c ((((((((B1_4.put 0 (of_decide_eq_true rfl) (.int .i64 r4.1.1) [.int .i64 r4.1.1, .int .i64 0, .int .i64 0, .int .i64 0, .int .i64 0, .int .i64 0, .int .i64 0, .int .i64 0, .int .i64 0] rfl).put 1 (of_decide_eq_true rfl) (.int .i64 r4.1.2.1) [.int .i64 r4.1.1, .int .i64 r4.1.2.1, .int .i64 0, .int .i64 0, .int .i64 0, .int .i64 0, .int .i64 0, .int .i64 0, .int .i64 0] rfl).put 2 (of_decide_eq_true rfl) (.int .i64 r4.1.2.2.1) [.int .i64 r4.1.1, .int .i64 r4.1.2.1, .int .i64 r4.1.2.2.1, .int .i64 0, .int .i64 0, .int .i64 0, .int .i64 0, .int .i64 0, .int .i64 0] rfl).put 3 (of_decide_eq_true rfl) (.int .i64 r4.1.2.2.2.1) [.int .i64 r4.1.1, .int .i64 r4.1.2.1, .int .i64 r4.1.2.2.1, .int .i64 r4.1.2.2.2.1, .int .i64 0, .int .i64 0, .int .i64 0, .int .i64 0, .int .i64 0] rfl).put 4 (of_decide_eq_true rfl) (.int .i64 r4.1.2.2.2.2.1) [.int .i64 r4.1.1, .int .i64 r4.1.2.1, .int .i64 r4.1.2.2.1, .int .i64 r4.1.2.2.2.1, .int .i64 r4.1.2.2.2.2.1, .int .i64 0, .int .i64 0, .int .i64 0, .int .i64 0] rfl).put 5 (of_decide_eq_true rfl) (.int .i64 r4.1.2.2.2.2.2.1) [.int .i64 r4.1.1, .int .i64 r4.1.2.1, .int .i64 r4.1.2.2.1, .int .i64 r4.1.2.2.2.1, .int .i64 r4.1.2.2.2.2.1, .int .i64 r4.1.2.2.2.2.2.1, .int .i64 0, .int .i64 0, .int .i64 0] rfl).put 6 (of_decide_eq_true rfl) (.int .i64 r4.1.2.2.2.2.2.2.1) [.int .i64 r4.1.1, .int .i64 r4.1.2.1, .int .i64 r4.1.2.2.1, .int .i64 r4.1.2.2.2.1, .int .i64 r4.1.2.2.2.2.1, .int .i64 r4.1.2.2.2.2.2.1, .int .i64 r4.1.2.2.2.2.2.2.1, .int .i64 0, .int .i64 0] rfl).put 7 (of_decide_eq_true rfl) (.int .i64 r4.1.2.2.2.2.2.2.2.1) [.int .i64 r4.1.1, .int .i64 r4.1.2.1, .int .i64 r4.1.2.2.1, .int .i64 r4.1.2.2.2.1, .int .i64 r4.1.2.2.2.2.1, .int .i64 r4.1.2.2.2.2.2.1, .int .i64 r4.1.2.2.2.2.2.2.1, .int .i64 r4.1.2.2.2.2.2.2.2.1, .int .i64 0] rfl) 7 (of_decide_eq_true rfl)
  have d8 := Arr.c (((((((((B1_4.put 0 (of_decide_eq_true rfl) (.int .i64 r4.1.1) [.int .i64 r4.1.1, .int .i64 0, .int .i64 0, .int .i64 0, .int .i64 0, .int .i64 0, .int .i64 0, .int .i64 0, .int .i64 0] rfl).put 1 (of_decide_eq_true rfl) (.int .i64 r4.1.2.1) [.int .i64 r4.1.1, .int .i64 r4.1.2.1, .int .i64 0, .int .i64 0, .int .i64 0, .int .i64 0, .int .i64 0, .int .i64 0, .int .i64 0] rfl).put 2 (of_decide_eq_true rfl) (.int .i64 r4.1.2.2.1) [.int .i64 r4.1.1, .int .i64 r4.1.2.1, .int .i64 r4.1.2.2.1, .int .i64 0, .int .i64 0, .int .i64 0, .int .i64 0, .int .i64 0, .int .i64 0] rfl).put 3 (of_decide_eq_true rfl) (.int .i64 r4.1.2.2.2.1) [.int .i64 r4.1.1, .int .i64 r4.1.2.1, .int .i64 r4.1.2.2.1, .int .i64 r4.1.2.2.2.1, .int .i64 0, .int .i64 0, .int .i64 0, .int .i64 0, .int .i64 0] rfl).put 4 (of_decide_eq_true rfl) (.int .i64 r4.1.2.2.2.2.1) [.int .i64 r4.1.1, .int .i64 r4.1.2.1, .int .i64 r4.1.2.2.1, .int .i64 r4.1.2.2.2.1, .int .i64 r4.1.2.2.2.2.1, .int .i64 0, .int .i64 0, .int .i64 0, .int .i64 0] rfl).put 5 (of_decide_eq_true rfl) (.int .i64 r4.1.2.2.2.2.2.1) [.int .i64 r4.1.1, .int .i64 r4.1.2.1, .int .i64 r4.1.2.2.1, .int .i64 r4.1.2.2.2.1, .int .i64 r4.1.2.2.2.2.1, .int .i64 r4.1.2.2.2.2.2.1, .int .i64 0, .int .i64 0, .int .i64 0] rfl).put 6 (of_decide_eq_true rfl) (.int .i64 r4.1.2.2.2.2.2.2.1) [.int .i64 r4.1.1, .int .i64 r4.1.2.1, .int .i64 r4.1.2.2.1, .int .i64 r4.1.2.2.2.1, .int .i64 r4.1.2.2.2.2.1, .int .i64 r4.1.2.2.2.2.2.1, .int .i64 r4.1.2.2.2.2.2.2.1, .int .i64 0, .int .i64 0] rfl).put 7 (of_decide_eq_true rfl) (.int .i64 r4.1.2.2.2.2.2.2.2.1) [.int .i64 r4.1.1, .int .i64 r4.1.2.1, .int .i64 r4.1.2.2.1, .int .i64 r4.1.2.2.2.1, .int .i64 r4.1.2.2.2.2.1, .int .i64 r4.1.2.2.2.2.2.1, .int .i64 r4.1.2.2.2.2.2.2.1, .int .i64 r4.1.2.2.2.2.2.2.2.1, .int .i64 0] rfl).put 8 (of_decide_eq_true rfl) (.int .i64 r4.1.2.2.2.2.2.2.2.2) [.int .i64 r4.1.1, .int .i64 r4.1.2.1, .int .i64 r4.1.2.2.1, .int .i64 r4.1.2.2.2.1, .int .i64 r4.1.2.2.2.2.1, .int .i64 r4.1.2.2.2.2.2.1, .int .i64 r4.1.2.2.2.2.2.2.1, .int .i64 r4.1.2.2.2.2.2.2.2.1, .int .i64 r4.1.2.2.2.2.2.2.2.2] rfl) 8 (of_decide_eq_true rfl)
  refine bodyPost_ret (v := .agg #[.int .i64 r4.1.1, .int .i64 r4.1.2.1, .int .i64 r4.1.2.2.1, .int .i64 r4.1.2.2.2.1, .int .i64 r4.1.2.2.2.2.1, .int .i64 r4.1.2.2.2.2.2.1, .int .i64 r4.1.2.2.2.2.2.2.1, .int .i64 r4.1.2.2.2.2.2.2.2.1, .int .i64 r4.1.2.2.2.2.2.2.2.2]) (by simp [results, Try.results11, go_sem, d0, d1, d2, d3, d4, d5, d6, d7, d8]) rfl ?_
  have hs : qMatrixS bad q = (r4.1, r4.2) := by unfold qMatrixS; simp only [E1.out, E2.out, E3.out, E4.out]
  rw [hs]
  exact ⟨rfl, (((((((((f4.new (w.heap.size + 1) 0 (by omega) (.int .i64 r4.1.1)).new (w.heap.size + 1) 1 (by omega) (.int .i64 r4.1.2.1)).new (w.heap.size + 1) 2 (by omega) (.int .i64 r4.1.2.2.1)).new (w.heap.size + 1) 3 (by omega) (.int .i64 r4.1.2.2.2.1)).new (w.heap.size + 1) 4 (by omega) (.int .i64 r4.1.2.2.2.2.1)).new (w.heap.size + 1) 5 (by omega) (.int .i64 r4.1.2.2.2.2.2.1)).new (w.heap.size + 1) 6 (by omega) (.int .i64 r4.1.2.2.2.2.2.2.1)).new (w.heap.size + 1) 7 (by omega) (.int .i64 r4.1.2.2.2.2.2.2.2.1)).new (w.heap.size + 1) 8 (by omega) (.int .i64 r4.1.2.2.2.2.2.2.2.2)), (((((((((K4.new _ _ (by omega) _).new _ _ (by omega) _).new _ _ (by omega) _).new _ _ (by omega) _).new _ _ (by omega) _).new _ _ (by omega) _).new _ _ (by omega) _).new _ _ (by omega) _).new _ _ (by omega) _)⟩
end Go.Proofs.Yteooceapkkdcpab
