/-
  Walks of package alidaderef03, for the seat Ytoaghmbaijlklaa. (Made by mkref03.py.)
-/
import Derived.Test.YtoaghmbaijlklaaUCode
import Derived.Test.YtoaghmbaijlklaaRFail
namespace Go.Proofs.Ytoaghmbaijlklaa
open Go.RowKit

set_option maxRecDepth 100000 in
set_option maxHeartbeats 2000000 in
theorem uUnit_any (b : Nat) (bad : Bool) (p : V3) (w : World) (hw : Fl b bad w) :
    Calls Try.prog 24 #[.pointer (some ⟨b, 0, none⟩), .agg #[.int .i64 p.1, .int .i64 p.2.1, .int .i64 p.2.2]] w fun e w' => e = .returned (.agg #[.int .i64 ((uUnitS bad p).1.1), .int .i64 ((uUnitS bad p).1.2.1), .int .i64 ((uUnitS bad p).1.2.2)]) ∧ Fl b (uUnitS bad p).2 w' ∧ Kept b w w' := by
  have hl := hw.lies
  go_enter Try.func24, Try.ntmps24
  go_wp2_with fail
  refine (uNorm_any b bad p _ ((hw.alloc _).alloc _)).mono ?_
  rintro e w1 ⟨rfl, f1, k1⟩
  generalize e1 : uNormS bad p = r1 at f1 ⊢
  have E1 : Hid _ := e1
  clear e1
  have K1 : Kept b w w1 := Kept.trans (((Kept.refl b w).al _).al _) k1
  have B0_1 : Arr w.heap.size [.int .i64 p.1, .int .i64 p.2.1, .int .i64 p.2.2] w1 := ((Arr_at _ _ [.int .i64 p.1, .int .i64 p.2.1, .int .i64 p.2.2] _ (by simp)).alloc _).kept k1 (by omega)
  have B1_1 : Arr (w.heap.size + 1) [.int .i64 0, .int .i64 0, .int .i64 0] w1 := (Arr_at _ _ [.int .i64 0, .int .i64 0, .int .i64 0] _ (by simp)).kept k1 (by omega)
  have z1 := B1_1.lies
  clear k1
  by_cases hc1 : r1.1 < 1048576
  · have Hhc1 : Hid (r1.1 < 1048576) := hc1
    go_wp2_with fail
    refine (rFail_any b r1.2  _ f1).mono ?_
    rintro e w2 ⟨rfl, f2, k2⟩
    have K2 : Kept b w w2 := Kept.trans K1 k2
    have B0_2 : Arr w.heap.size [.int .i64 p.1, .int .i64 p.2.1, .int .i64 p.2.2] w2 := B0_1.kept k2 (by omega)
    have B1_2 : Arr (w.heap.size + 1) [.int .i64 0, .int .i64 0, .int .i64 0] w2 := B1_1.kept k2 (by omega)
    have z2 := B1_2.lies
    clear K1 f1 B0_1 B1_1 k2
    go_wp2_with fail
    refine wp_loop_rounds 4 ?_
    rw [rounds_succ]
    have c4_B0_0 : w2.cell? ⟨w.heap.size, 0, none⟩ = some (.int .i64 p.1) := B0_2.c 0 (of_decide_eq_true rfl)
    have l4_B0 := B0_2.lies
    go_wp2_with fail
    refine (rDiv_any b true p.1 r1.1 _ (f2.alloc _)).mono ?_
    rintro e w3 ⟨rfl, f3, k3⟩
    generalize e3 : divS true p.1 r1.1 = r3 at f3 ⊢
    have E3 : Hid _ := e3
    clear e3
    have K3 : Kept b w w3 := Kept.trans (K2.al _) k3
    have B0_3 : Arr w.heap.size [.int .i64 p.1, .int .i64 p.2.1, .int .i64 p.2.2] w3 := (B0_2.alloc _).kept k3 (by omega)
    have B1_3 : Arr (w.heap.size + 1) [.int .i64 0, .int .i64 0, .int .i64 0] w3 := (B1_2.alloc _).kept k3 (by omega)
    have B2_3 : Arr w2.heap.size [.int .i64 0, .int .i64 0, .int .i64 0] w3 := (Arr_at _ _ [.int .i64 0, .int .i64 0, .int .i64 0] _ (by simp)).kept k3 (by omega)
    have z3 := B2_3.lies
    clear c4_B0_0 l4_B0 K2 f2 B0_2 B1_2 k3
    have c5_B2_0 : w3.cell? ⟨w2.heap.size, 0, none⟩ = some (.int .i64 0) := B2_3.c 0 (of_decide_eq_true rfl)
    have g5_B2_0 := B2_3.f 0 (of_decide_eq_true rfl)
    go_wp2_with fail
    clear c5_B2_0 g5_B2_0
    rw [rounds_succ]
    have c6_B0_1 : w3.cell? ⟨w.heap.size, 1, none⟩ = some (.int .i64 p.2.1) := B0_3.c 1 (of_decide_eq_true rfl)
    go_wp2_with fail
    refine (rDiv_any b r3.2 p.2.1 r1.1 _ (f3.new _ _ (by omega) _)).mono ?_
    rintro e w4 ⟨rfl, f4, k4⟩
    generalize e4 : divS r3.2 p.2.1 r1.1 = r4 at f4 ⊢
    have E4 : Hid _ := e4
    clear e4
    have K4 : Kept b w w4 := Kept.trans (K3.new _ _ (by omega) _) k4
    have B0_4 : Arr w.heap.size [.int .i64 p.1, .int .i64 p.2.1, .int .i64 p.2.2] w4 := (B0_3.new _ _ (by omega) _).kept k4 (by omega)
    have B1_4 : Arr (w.heap.size + 1) [.int .i64 0, .int .i64 0, .int .i64 0] w4 := (B1_3.new _ _ (by omega) _).kept k4 (by omega)
    have B2_4 : Arr w2.heap.size [.int .i64 r3.1, .int .i64 0, .int .i64 0] w4 := (B2_3.put 0 (of_decide_eq_true rfl) (.int .i64 r3.1) [.int .i64 r3.1, .int .i64 0, .int .i64 0] rfl).kept k4 (by omega)
    have z4 := B2_4.lies
    clear c6_B0_1 K3 f3 B0_3 B1_3 B2_3 k4
    have c7_B2_1 : w4.cell? ⟨w2.heap.size, 1, none⟩ = some (.int .i64 0) := B2_4.c 1 (of_decide_eq_true rfl)
    have g7_B2_1 := B2_4.f 1 (of_decide_eq_true rfl)
    go_wp2_with fail
    clear c7_B2_1 g7_B2_1
    rw [rounds_succ]
    have c8_B0_2 : w4.cell? ⟨w.heap.size, 2, none⟩ = some (.int .i64 p.2.2) := B0_4.c 2 (of_decide_eq_true rfl)
    go_wp2_with fail
    refine (rDiv_any b r4.2 p.2.2 r1.1 _ (f4.new _ _ (by omega) _)).mono ?_
    rintro e w5 ⟨rfl, f5, k5⟩
    generalize e5 : divS r4.2 p.2.2 r1.1 = r5 at f5 ⊢
    have E5 : Hid _ := e5
    clear e5
    have K5 : Kept b w w5 := Kept.trans (K4.new _ _ (by omega) _) k5
    have B0_5 : Arr w.heap.size [.int .i64 p.1, .int .i64 p.2.1, .int .i64 p.2.2] w5 := (B0_4.new _ _ (by omega) _).kept k5 (by omega)
    have B1_5 : Arr (w.heap.size + 1) [.int .i64 0, .int .i64 0, .int .i64 0] w5 := (B1_4.new _ _ (by omega) _).kept k5 (by omega)
    have B2_5 : Arr w2.heap.size [.int .i64 r3.1, .int .i64 r4.1, .int .i64 0] w5 := (B2_4.put 1 (of_decide_eq_true rfl) (.int .i64 r4.1) [.int .i64 r3.1, .int .i64 r4.1, .int .i64 0] rfl).kept k5 (by omega)
    have z5 := B2_5.lies
    clear c8_B0_2 K4 f4 B0_4 B1_4 B2_4 k5
    have c9_B2_2 : w5.cell? ⟨w2.heap.size, 2, none⟩ = some (.int .i64 0) := B2_5.c 2 (of_decide_eq_true rfl)
    have g9_B2_2 := B2_5.f 2 (of_decide_eq_true rfl)
    go_wp2_with fail
    clear c9_B2_2 g9_B2_2
    rw [rounds_succ]
    have c10_B2_0 : w5.cell? ⟨w2.heap.size, 0, none⟩ = some (.int .i64 r3.1) := B2_5.c 0 (of_decide_eq_true rfl)
    have c10_B2_1 : w5.cell? ⟨w2.heap.size, 1, none⟩ = some (.int .i64 r4.1) := B2_5.c 1 (of_decide_eq_true rfl)
    have c10_B2_2 : w5.cell? ⟨w2.heap.size, 2, none⟩ = some (.int .i64 0) := B2_5.c 2 (of_decide_eq_true rfl)
    go_wp2_with fail
    refine (done_any b r5.2 (r3.1, r4.1, r5.1) _ (f5.new _ _ (by omega) _)).mono ?_
    rintro e w6 ⟨rfl, f6, k6⟩
    generalize e6 : soundS r5.2 (r3.1, r4.1, r5.1) = r6 at f6 ⊢
    have E6 : Hid _ := e6
    clear e6
    have K6 : Kept b w w6 := Kept.trans (K5.new _ _ (by omega) _) k6
    have B0_6 : Arr w.heap.size [.int .i64 p.1, .int .i64 p.2.1, .int .i64 p.2.2] w6 := (B0_5.new _ _ (by omega) _).kept k6 (by omega)
    have B1_6 : Arr (w.heap.size + 1) [.int .i64 0, .int .i64 0, .int .i64 0] w6 := (B1_5.new _ _ (by omega) _).kept k6 (by omega)
    have B2_6 : Arr w2.heap.size [.int .i64 r3.1, .int .i64 r4.1, .int .i64 r5.1] w6 := (B2_5.put 2 (of_decide_eq_true rfl) (.int .i64 r5.1) [.int .i64 r3.1, .int .i64 r4.1, .int .i64 r5.1] rfl).kept k6 (by omega)
    have z6 := B2_6.lies
    clear c10_B2_0 c10_B2_1 c10_B2_2 K5 f5 B0_5 B1_5 B2_5 k6
    have c11_B1_0 : w6.cell? ⟨w.heap.size + 1, 0, none⟩ = some (.int .i64 0) := B1_6.c 0 (of_decide_eq_true rfl)
    have c11_B1_1 : w6.cell? ⟨w.heap.size + 1, 1, none⟩ = some (.int .i64 0) := B1_6.c 1 (of_decide_eq_true rfl)
    have c11_B1_2 : w6.cell? ⟨w.heap.size + 1, 2, none⟩ = some (.int .i64 0) := B1_6.c 2 (of_decide_eq_true rfl)
    have g11_B1_0 := B1_6.f 0 (of_decide_eq_true rfl)
    have g11_B1_1 := B1_6.f 1 (of_decide_eq_true rfl)
    have g11_B1_2 := B1_6.f 2 (of_decide_eq_true rfl)
    go_wp2
    clear c11_B1_0 c11_B1_1 c11_B1_2 g11_B1_0 g11_B1_1 g11_B1_2
    have d0 := Arr.c (B1_6.put 0 (of_decide_eq_true rfl) (.int .i64 r6.1.1) [.int .i64 r6.1.1, .int .i64 0, .int .i64 0] rfl) 0 (of_decide_eq_true rfl)
    have d1 := Arr.c ((B1_6.put 0 (of_decide_eq_true rfl) (.int .i64 r6.1.1) [.int .i64 r6.1.1, .int .i64 0, .int .i64 0] rfl).put 1 (of_decide_eq_true rfl) (.int .i64 r6.1.2.1) [.int .i64 r6.1.1, .int .i64 r6.1.2.1, .int .i64 0] rfl) 1 (of_decide_eq_true rfl)
    have d2 := Arr.c (((B1_6.put 0 (of_decide_eq_true rfl) (.int .i64 r6.1.1) [.int .i64 r6.1.1, .int .i64 0, .int .i64 0] rfl).put 1 (of_decide_eq_true rfl) (.int .i64 r6.1.2.1) [.int .i64 r6.1.1, .int .i64 r6.1.2.1, .int .i64 0] rfl).put 2 (of_decide_eq_true rfl) (.int .i64 r6.1.2.2) [.int .i64 r6.1.1, .int .i64 r6.1.2.1, .int .i64 r6.1.2.2] rfl) 2 (of_decide_eq_true rfl)
    refine bodyPost_ret (v := .agg #[.int .i64 r6.1.1, .int .i64 r6.1.2.1, .int .i64 r6.1.2.2]) (by simp [results, Try.results24, go_sem, d0, d1, d2]) rfl ?_
    have hs : uUnitS bad p = (r6.1, r6.2) := by unfold uUnitS; simp only [E1.out, E3.out, E4.out, E5.out, E6.out]; rw [if_pos (by have := Hhc1.out; omega)]
    rw [hs]
    exact ⟨rfl, (((f6.new _ _ (by omega) _).new _ _ (by omega) _).new _ _ (by omega) _), (((K6.new _ _ (by omega) _).new _ _ (by omega) _).new _ _ (by omega) _)⟩
  · have Hhc1 : Hid (¬ r1.1 < 1048576) := hc1
    go_wp2_with fail
    refine wp_loop_rounds 4 ?_
    rw [rounds_succ]
    have c3_B0_0 : w1.cell? ⟨w.heap.size, 0, none⟩ = some (.int .i64 p.1) := B0_1.c 0 (of_decide_eq_true rfl)
    have l3_B0 := B0_1.lies
    go_wp2_with fail
    refine (rDiv_any b r1.2 p.1 r1.1 _ (f1.alloc _)).mono ?_
    rintro e w2 ⟨rfl, f2, k2⟩
    generalize e2 : divS r1.2 p.1 r1.1 = r2 at f2 ⊢
    have E2 : Hid _ := e2
    clear e2
    have K2 : Kept b w w2 := Kept.trans (K1.al _) k2
    have B0_2 : Arr w.heap.size [.int .i64 p.1, .int .i64 p.2.1, .int .i64 p.2.2] w2 := (B0_1.alloc _).kept k2 (by omega)
    have B1_2 : Arr (w.heap.size + 1) [.int .i64 0, .int .i64 0, .int .i64 0] w2 := (B1_1.alloc _).kept k2 (by omega)
    have B2_2 : Arr w1.heap.size [.int .i64 0, .int .i64 0, .int .i64 0] w2 := (Arr_at _ _ [.int .i64 0, .int .i64 0, .int .i64 0] _ (by simp)).kept k2 (by omega)
    have z2 := B2_2.lies
    clear c3_B0_0 l3_B0 K1 f1 B0_1 B1_1 k2
    have c4_B2_0 : w2.cell? ⟨w1.heap.size, 0, none⟩ = some (.int .i64 0) := B2_2.c 0 (of_decide_eq_true rfl)
    have g4_B2_0 := B2_2.f 0 (of_decide_eq_true rfl)
    go_wp2_with fail
    clear c4_B2_0 g4_B2_0
    rw [rounds_succ]
    have c5_B0_1 : w2.cell? ⟨w.heap.size, 1, none⟩ = some (.int .i64 p.2.1) := B0_2.c 1 (of_decide_eq_true rfl)
    go_wp2_with fail
    refine (rDiv_any b r2.2 p.2.1 r1.1 _ (f2.new _ _ (by omega) _)).mono ?_
    rintro e w3 ⟨rfl, f3, k3⟩
    generalize e3 : divS r2.2 p.2.1 r1.1 = r3 at f3 ⊢
    have E3 : Hid _ := e3
    clear e3
    have K3 : Kept b w w3 := Kept.trans (K2.new _ _ (by omega) _) k3
    have B0_3 : Arr w.heap.size [.int .i64 p.1, .int .i64 p.2.1, .int .i64 p.2.2] w3 := (B0_2.new _ _ (by omega) _).kept k3 (by omega)
    have B1_3 : Arr (w.heap.size + 1) [.int .i64 0, .int .i64 0, .int .i64 0] w3 := (B1_2.new _ _ (by omega) _).kept k3 (by omega)
    have B2_3 : Arr w1.heap.size [.int .i64 r2.1, .int .i64 0, .int .i64 0] w3 := (B2_2.put 0 (of_decide_eq_true rfl) (.int .i64 r2.1) [.int .i64 r2.1, .int .i64 0, .int .i64 0] rfl).kept k3 (by omega)
    have z3 := B2_3.lies
    clear c5_B0_1 K2 f2 B0_2 B1_2 B2_2 k3
    have c6_B2_1 : w3.cell? ⟨w1.heap.size, 1, none⟩ = some (.int .i64 0) := B2_3.c 1 (of_decide_eq_true rfl)
    have g6_B2_1 := B2_3.f 1 (of_decide_eq_true rfl)
    go_wp2_with fail
    clear c6_B2_1 g6_B2_1
    rw [rounds_succ]
    have c7_B0_2 : w3.cell? ⟨w.heap.size, 2, none⟩ = some (.int .i64 p.2.2) := B0_3.c 2 (of_decide_eq_true rfl)
    go_wp2_with fail
    refine (rDiv_any b r3.2 p.2.2 r1.1 _ (f3.new _ _ (by omega) _)).mono ?_
    rintro e w4 ⟨rfl, f4, k4⟩
    generalize e4 : divS r3.2 p.2.2 r1.1 = r4 at f4 ⊢
    have E4 : Hid _ := e4
    clear e4
    have K4 : Kept b w w4 := Kept.trans (K3.new _ _ (by omega) _) k4
    have B0_4 : Arr w.heap.size [.int .i64 p.1, .int .i64 p.2.1, .int .i64 p.2.2] w4 := (B0_3.new _ _ (by omega) _).kept k4 (by omega)
    have B1_4 : Arr (w.heap.size + 1) [.int .i64 0, .int .i64 0, .int .i64 0] w4 := (B1_3.new _ _ (by omega) _).kept k4 (by omega)
    have B2_4 : Arr w1.heap.size [.int .i64 r2.1, .int .i64 r3.1, .int .i64 0] w4 := (B2_3.put 1 (of_decide_eq_true rfl) (.int .i64 r3.1) [.int .i64 r2.1, .int .i64 r3.1, .int .i64 0] rfl).kept k4 (by omega)
    have z4 := B2_4.lies
    clear c7_B0_2 K3 f3 B0_3 B1_3 B2_3 k4
    have c8_B2_2 : w4.cell? ⟨w1.heap.size, 2, none⟩ = some (.int .i64 0) := B2_4.c 2 (of_decide_eq_true rfl)
    have g8_B2_2 := B2_4.f 2 (of_decide_eq_true rfl)
    go_wp2_with fail
    clear c8_B2_2 g8_B2_2
    rw [rounds_succ]
    have c9_B2_0 : w4.cell? ⟨w1.heap.size, 0, none⟩ = some (.int .i64 r2.1) := B2_4.c 0 (of_decide_eq_true rfl)
    have c9_B2_1 : w4.cell? ⟨w1.heap.size, 1, none⟩ = some (.int .i64 r3.1) := B2_4.c 1 (of_decide_eq_true rfl)
    have c9_B2_2 : w4.cell? ⟨w1.heap.size, 2, none⟩ = some (.int .i64 0) := B2_4.c 2 (of_decide_eq_true rfl)
    go_wp2_with fail
    refine (done_any b r4.2 (r2.1, r3.1, r4.1) _ (f4.new _ _ (by omega) _)).mono ?_
    rintro e w5 ⟨rfl, f5, k5⟩
    generalize e5 : soundS r4.2 (r2.1, r3.1, r4.1) = r5 at f5 ⊢
    have E5 : Hid _ := e5
    clear e5
    have K5 : Kept b w w5 := Kept.trans (K4.new _ _ (by omega) _) k5
    have B0_5 : Arr w.heap.size [.int .i64 p.1, .int .i64 p.2.1, .int .i64 p.2.2] w5 := (B0_4.new _ _ (by omega) _).kept k5 (by omega)
    have B1_5 : Arr (w.heap.size + 1) [.int .i64 0, .int .i64 0, .int .i64 0] w5 := (B1_4.new _ _ (by omega) _).kept k5 (by omega)
    have B2_5 : Arr w1.heap.size [.int .i64 r2.1, .int .i64 r3.1, .int .i64 r4.1] w5 := (B2_4.put 2 (of_decide_eq_true rfl) (.int .i64 r4.1) [.int .i64 r2.1, .int .i64 r3.1, .int .i64 r4.1] rfl).kept k5 (by omega)
    have z5 := B2_5.lies
    clear c9_B2_0 c9_B2_1 c9_B2_2 K4 f4 B0_4 B1_4 B2_4 k5
    have c10_B1_0 : w5.cell? ⟨w.heap.size + 1, 0, none⟩ = some (.int .i64 0) := B1_5.c 0 (of_decide_eq_true rfl)
    have c10_B1_1 : w5.cell? ⟨w.heap.size + 1, 1, none⟩ = some (.int .i64 0) := B1_5.c 1 (of_decide_eq_true rfl)
    have c10_B1_2 : w5.cell? ⟨w.heap.size + 1, 2, none⟩ = some (.int .i64 0) := B1_5.c 2 (of_decide_eq_true rfl)
    have g10_B1_0 := B1_5.f 0 (of_decide_eq_true rfl)
    have g10_B1_1 := B1_5.f 1 (of_decide_eq_true rfl)
    have g10_B1_2 := B1_5.f 2 (of_decide_eq_true rfl)
    go_wp2
    clear c10_B1_0 c10_B1_1 c10_B1_2 g10_B1_0 g10_B1_1 g10_B1_2
    have d0 := Arr.c (B1_5.put 0 (of_decide_eq_true rfl) (.int .i64 r5.1.1) [.int .i64 r5.1.1, .int .i64 0, .int .i64 0] rfl) 0 (of_decide_eq_true rfl)
    have d1 := Arr.c ((B1_5.put 0 (of_decide_eq_true rfl) (.int .i64 r5.1.1) [.int .i64 r5.1.1, .int .i64 0, .int .i64 0] rfl).put 1 (of_decide_eq_true rfl) (.int .i64 r5.1.2.1) [.int .i64 r5.1.1, .int .i64 r5.1.2.1, .int .i64 0] rfl) 1 (of_decide_eq_true rfl)
    have d2 := Arr.c (((B1_5.put 0 (of_decide_eq_true rfl) (.int .i64 r5.1.1) [.int .i64 r5.1.1, .int .i64 0, .int .i64 0] rfl).put 1 (of_decide_eq_true rfl) (.int .i64 r5.1.2.1) [.int .i64 r5.1.1, .int .i64 r5.1.2.1, .int .i64 0] rfl).put 2 (of_decide_eq_true rfl) (.int .i64 r5.1.2.2) [.int .i64 r5.1.1, .int .i64 r5.1.2.1, .int .i64 r5.1.2.2] rfl) 2 (of_decide_eq_true rfl)
    refine bodyPost_ret (v := .agg #[.int .i64 r5.1.1, .int .i64 r5.1.2.1, .int .i64 r5.1.2.2]) (by simp [results, Try.results24, go_sem, d0, d1, d2]) rfl ?_
    have hs : uUnitS bad p = (r5.1, r5.2) := by unfold uUnitS; simp only [E1.out, E2.out, E3.out, E4.out, E5.out]; rw [if_neg (by have := Hhc1.out; omega)]
    rw [hs]
    exact ⟨rfl, (((f5.new _ _ (by omega) _).new _ _ (by omega) _).new _ _ (by omega) _), (((K5.new _ _ (by omega) _).new _ _ (by omega) _).new _ _ (by omega) _)⟩
end Go.Proofs.Ytoaghmbaijlklaa
