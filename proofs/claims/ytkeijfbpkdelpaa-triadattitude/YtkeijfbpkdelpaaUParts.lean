/-
  Walks of package alidaderef03, for the seat Ytkeijfbpkdelpaa. (Made by mkref03.py.)
-/
import Derived.Test.YtkeijfbpkdelpaaUCross
import Derived.Test.YtkeijfbpkdelpaaUUnit
namespace Go.Proofs.Ytkeijfbpkdelpaa
open Go.RowKit

set_option maxRecDepth 100000 in
set_option maxHeartbeats 2000000 in
theorem uParts_any (b : Nat) (bad : Bool) (p : V3) (q : V3) (w : World) (hw : Fl b bad w) :
    Calls Try.prog 20 #[.pointer (some ⟨b, 0, none⟩), .agg #[.int .i64 p.1, .int .i64 p.2.1, .int .i64 p.2.2], .agg #[.int .i64 q.1, .int .i64 q.2.1, .int .i64 q.2.2]] w fun e w' => e = .returned (.tuple #[.int .i64 ((uPartsS bad p q).1.1), .int .i64 ((uPartsS bad p q).1.2)]) ∧ Fl b (uPartsS bad p q).2 w' ∧ Kept b w w' := by
  have hl := hw.lies
  go_enter Try.func20, Try.ntmps20
  go_wp2_with fail
  refine (uUnit_any b bad p _ ((hw.alloc _).alloc _)).mono ?_
  rintro e w1 ⟨rfl, f1, k1⟩
  generalize e1 : uUnitS bad p = r1 at f1 ⊢
  have E1 : Hid _ := e1
  clear e1
  have K1 : Kept b w w1 := Kept.trans (((Kept.refl b w).al _).al _) k1
  have B0_1 : Arr w.heap.size [.int .i64 p.1, .int .i64 p.2.1, .int .i64 p.2.2] w1 := ((Arr_at _ _ [.int .i64 p.1, .int .i64 p.2.1, .int .i64 p.2.2] _ (by simp)).alloc _).kept k1 (by omega)
  have B1_1 : Arr (w.heap.size + 1) [.int .i64 q.1, .int .i64 q.2.1, .int .i64 q.2.2] w1 := (Arr_at _ _ [.int .i64 q.1, .int .i64 q.2.1, .int .i64 q.2.2] _ (by simp)).kept k1 (by omega)
  have z1 := B1_1.lies
  clear k1
  have c2_B1_0 : w1.cell? ⟨w.heap.size + 1, 0, none⟩ = some (.int .i64 q.1) := B1_1.c 0 (of_decide_eq_true rfl)
  have c2_B1_1 : w1.cell? ⟨w.heap.size + 1, 1, none⟩ = some (.int .i64 q.2.1) := B1_1.c 1 (of_decide_eq_true rfl)
  have c2_B1_2 : w1.cell? ⟨w.heap.size + 1, 2, none⟩ = some (.int .i64 q.2.2) := B1_1.c 2 (of_decide_eq_true rfl)
  have l2_B1 := B1_1.lies
  go_wp2_with fail
  refine (uUnit_any b r1.2 q _ (f1.alloc _)).mono ?_
  rintro e w2 ⟨rfl, f2, k2⟩
  generalize e2 : uUnitS r1.2 q = r2 at f2 ⊢
  have E2 : Hid _ := e2
  clear e2
  have K2 : Kept b w w2 := Kept.trans (K1.al _) k2
  have B0_2 : Arr w.heap.size [.int .i64 p.1, .int .i64 p.2.1, .int .i64 p.2.2] w2 := (B0_1.alloc _).kept k2 (by omega)
  have B1_2 : Arr (w.heap.size + 1) [.int .i64 q.1, .int .i64 q.2.1, .int .i64 q.2.2] w2 := (B1_1.alloc _).kept k2 (by omega)
  have B2_2 : Arr w1.heap.size [.int .i64 r1.1.1, .int .i64 r1.1.2.1, .int .i64 r1.1.2.2] w2 := (Arr_at _ _ [.int .i64 r1.1.1, .int .i64 r1.1.2.1, .int .i64 r1.1.2.2] _ (by simp)).kept k2 (by omega)
  have z2 := B2_2.lies
  clear c2_B1_0 c2_B1_1 c2_B1_2 l2_B1 K1 f1 B0_1 B1_1 k2
  have c3_B2_0 : w2.cell? ⟨w1.heap.size, 0, none⟩ = some (.int .i64 r1.1.1) := B2_2.c 0 (of_decide_eq_true rfl)
  have c3_B2_1 : w2.cell? ⟨w1.heap.size, 1, none⟩ = some (.int .i64 r1.1.2.1) := B2_2.c 1 (of_decide_eq_true rfl)
  have c3_B2_2 : w2.cell? ⟨w1.heap.size, 2, none⟩ = some (.int .i64 r1.1.2.2) := B2_2.c 2 (of_decide_eq_true rfl)
  have l3_B2 := B2_2.lies
  go_wp2_with fail
  refine (uCross_any b r2.2 r1.1 r2.1 _ (f2.alloc _)).mono ?_
  rintro e w3 ⟨rfl, f3, k3⟩
  generalize e3 : uCrossS r2.2 r1.1 r2.1 = r3 at f3 ⊢
  have E3 : Hid _ := e3
  clear e3
  have K3 : Kept b w w3 := Kept.trans (K2.al _) k3
  have B0_3 : Arr w.heap.size [.int .i64 p.1, .int .i64 p.2.1, .int .i64 p.2.2] w3 := (B0_2.alloc _).kept k3 (by omega)
  have B1_3 : Arr (w.heap.size + 1) [.int .i64 q.1, .int .i64 q.2.1, .int .i64 q.2.2] w3 := (B1_2.alloc _).kept k3 (by omega)
  have B2_3 : Arr w1.heap.size [.int .i64 r1.1.1, .int .i64 r1.1.2.1, .int .i64 r1.1.2.2] w3 := (B2_2.alloc _).kept k3 (by omega)
  have B3_3 : Arr w2.heap.size [.int .i64 r2.1.1, .int .i64 r2.1.2.1, .int .i64 r2.1.2.2] w3 := (Arr_at _ _ [.int .i64 r2.1.1, .int .i64 r2.1.2.1, .int .i64 r2.1.2.2] _ (by simp)).kept k3 (by omega)
  have z3 := B3_3.lies
  clear c3_B2_0 c3_B2_1 c3_B2_2 l3_B2 K2 f2 B0_2 B1_2 B2_2 k3
  go_wp2_with fail
  refine (uNorm_any b r3.2 r3.1 _ f3).mono ?_
  rintro e w4 ⟨rfl, f4, k4⟩
  generalize e4 : uNormS r3.2 r3.1 = r4 at f4 ⊢
  have E4 : Hid _ := e4
  clear e4
  have K4 : Kept b w w4 := Kept.trans K3 k4
  have B0_4 : Arr w.heap.size [.int .i64 p.1, .int .i64 p.2.1, .int .i64 p.2.2] w4 := B0_3.kept k4 (by omega)
  have B1_4 : Arr (w.heap.size + 1) [.int .i64 q.1, .int .i64 q.2.1, .int .i64 q.2.2] w4 := B1_3.kept k4 (by omega)
  have B2_4 : Arr w1.heap.size [.int .i64 r1.1.1, .int .i64 r1.1.2.1, .int .i64 r1.1.2.2] w4 := B2_3.kept k4 (by omega)
  have B3_4 : Arr w2.heap.size [.int .i64 r2.1.1, .int .i64 r2.1.2.1, .int .i64 r2.1.2.2] w4 := B3_3.kept k4 (by omega)
  have z4 := B3_4.lies
  clear K3 f3 B0_3 B1_3 B2_3 B3_3 k4
  have c5_B2_0 : w4.cell? ⟨w1.heap.size, 0, none⟩ = some (.int .i64 r1.1.1) := B2_4.c 0 (of_decide_eq_true rfl)
  have c5_B2_1 : w4.cell? ⟨w1.heap.size, 1, none⟩ = some (.int .i64 r1.1.2.1) := B2_4.c 1 (of_decide_eq_true rfl)
  have c5_B2_2 : w4.cell? ⟨w1.heap.size, 2, none⟩ = some (.int .i64 r1.1.2.2) := B2_4.c 2 (of_decide_eq_true rfl)
  have c5_B3_0 : w4.cell? ⟨w2.heap.size, 0, none⟩ = some (.int .i64 r2.1.1) := B3_4.c 0 (of_decide_eq_true rfl)
  have c5_B3_1 : w4.cell? ⟨w2.heap.size, 1, none⟩ = some (.int .i64 r2.1.2.1) := B3_4.c 1 (of_decide_eq_true rfl)
  have c5_B3_2 : w4.cell? ⟨w2.heap.size, 2, none⟩ = some (.int .i64 r2.1.2.2) := B3_4.c 2 (of_decide_eq_true rfl)
  go_wp2_with fail
  refine (uDot_any b r4.2 r1.1 r2.1 _ f4).mono ?_
  rintro e w5 ⟨rfl, f5, k5⟩
  generalize e5 : uDotS r4.2 r1.1 r2.1 = r5 at f5 ⊢
  have E5 : Hid _ := e5
  clear e5
  have K5 : Kept b w w5 := Kept.trans K4 k5
  have B0_5 : Arr w.heap.size [.int .i64 p.1, .int .i64 p.2.1, .int .i64 p.2.2] w5 := B0_4.kept k5 (by omega)
  have B1_5 : Arr (w.heap.size + 1) [.int .i64 q.1, .int .i64 q.2.1, .int .i64 q.2.2] w5 := B1_4.kept k5 (by omega)
  have B2_5 : Arr w1.heap.size [.int .i64 r1.1.1, .int .i64 r1.1.2.1, .int .i64 r1.1.2.2] w5 := B2_4.kept k5 (by omega)
  have B3_5 : Arr w2.heap.size [.int .i64 r2.1.1, .int .i64 r2.1.2.1, .int .i64 r2.1.2.2] w5 := B3_4.kept k5 (by omega)
  have z5 := B3_5.lies
  clear c5_B2_0 c5_B2_1 c5_B2_2 c5_B3_0 c5_B3_1 c5_B3_2 K4 f4 B0_4 B1_4 B2_4 B3_4 k5
  rcases Bool.eq_false_or_eq_true r5.2 with hc1 | hc1
  · have Hhc1 : Hid (r5.2 = true) := hc1
    have c6_BF := f5.cell
    go_wp2
    clear c6_BF
    refine bodyPost_ret (v := .tuple #[.int .i64 0, .int .i64 0]) (by simp [results, Try.results20, go_sem]) rfl ?_
    have hs : uPartsS bad p q = ((0, 0), r5.2) := by unfold uPartsS; simp only [E1.out, E2.out, E3.out, E4.out, E5.out]; rw [if_pos Hhc1.out]
    rw [hs]
    exact ⟨rfl, f5, K5⟩
  · have Hhc1 : Hid (r5.2 = false) := hc1
    have c6_BF := f5.cell
    go_wp2
    clear c6_BF
    refine bodyPost_ret (v := .tuple #[.int .i64 r4.1, .int .i64 r5.1]) (by simp [results, Try.results20, go_sem]) rfl ?_
    have hs : uPartsS bad p q = ((r4.1, r5.1), r5.2) := by unfold uPartsS; simp only [E1.out, E2.out, E3.out, E4.out, E5.out]; rw [if_neg (by rw [Hhc1.out]; decide)]
    rw [hs]
    exact ⟨rfl, f5, K5⟩
end Go.Proofs.Ytkeijfbpkdelpaa
