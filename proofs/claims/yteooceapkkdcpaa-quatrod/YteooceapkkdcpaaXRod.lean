/-
  Walks of package alidaderef04, for the seat Yteooceapkkdcpaa. (Made by mkref04.py.)
-/
import Derived.Test.YteooceapkkdcpaaXUnit
import Derived.Test.YteooceapkkdcpaaUCode
import Derived.Handy
import Derived.Deep.RegionHeld3
namespace Go.Proofs.Yteooceapkkdcpaa
open Go.RowKit

set_option maxRecDepth 100000 in
set_option maxHeartbeats 2000000 in
theorem xFromRod_any (b : Nat) (bad : Bool) (p : V3) (w : World) (hw : Fl b bad w) :
    Calls Try.prog 19 #[.pointer (some ⟨b, 0, none⟩), .agg #[.int .i64 p.1, .int .i64 p.2.1, .int .i64 p.2.2]] w fun e w' => e = .returned (.agg #[.int .i64 ((xFromRodS bad p).1.1), .int .i64 ((xFromRodS bad p).1.2.1), .int .i64 ((xFromRodS bad p).1.2.2.1), .int .i64 ((xFromRodS bad p).1.2.2.2)]) ∧ Fl b (xFromRodS bad p).2 w' ∧ Kept b w w' := by
  have hl := hw.lies
  go_enter Try.func19, Try.ntmps19
  go_wp2_with fail
  refine (uDot_any b bad p p _ ((hw.alloc _).alloc _)).mono ?_
  rintro e w1 ⟨rfl, f1, k1⟩
  generalize e1 : uDotS bad p p = r1 at f1 ⊢
  have E1 : Hid _ := e1
  clear e1
  have K1 : Kept b w w1 := Kept.trans (((Kept.refl b w).al _).al _) k1
  have B0_1 : Arr w.heap.size [.int .i64 p.1, .int .i64 p.2.1, .int .i64 p.2.2] w1 := ((Arr_at _ _ [.int .i64 p.1, .int .i64 p.2.1, .int .i64 p.2.2] _ (by simp)).alloc _).kept k1 (by omega)
  have B1_1 : Arr (w.heap.size + 1) [.int .i64 0, .int .i64 0, .int .i64 0, .int .i64 0] w1 := (Arr_at _ _ [.int .i64 0, .int .i64 0, .int .i64 0, .int .i64 0] _ (by simp)).kept k1 (by omega)
  have z1 := B1_1.lies
  clear k1
  go_wp2_with fail
  refine (rAdd_any b r1.2 17592186044416 r1.1 _ f1).mono ?_
  rintro e w2 ⟨rfl, f2, k2⟩
  generalize e2 : addS r1.2 17592186044416 r1.1 = r2 at f2 ⊢
  have E2 : Hid _ := e2
  clear e2
  have K2 : Kept b w w2 := Kept.trans K1 k2
  have B0_2 : Arr w.heap.size [.int .i64 p.1, .int .i64 p.2.1, .int .i64 p.2.2] w2 := B0_1.kept k2 (by omega)
  have B1_2 : Arr (w.heap.size + 1) [.int .i64 0, .int .i64 0, .int .i64 0, .int .i64 0] w2 := B1_1.kept k2 (by omega)
  have z2 := B1_2.lies
  clear K1 f1 B0_1 B1_1 k2
  go_wp2_with fail
  refine wp_loop_rounds 4 ?_
  rw [rounds_succ]
  have c4_B0_0 : w2.cell? ⟨w.heap.size, 0, none⟩ = some (.int .i64 p.1) := B0_2.c 0 (of_decide_eq_true rfl)
  have l4_B0 := B0_2.lies
  go_wp2_with fail
  refine (rMul_any b r2.2 p.1 8796093022208 _ (f2.alloc _)).mono ?_
  rintro e w3 ⟨rfl, f3, k3⟩
  generalize e3 : mulS r2.2 p.1 8796093022208 = r3 at f3 ⊢
  have E3 : Hid _ := e3
  clear e3
  have K3 : Kept b w w3 := Kept.trans (K2.al _) k3
  have B0_3 : Arr w.heap.size [.int .i64 p.1, .int .i64 p.2.1, .int .i64 p.2.2] w3 := (B0_2.alloc _).kept k3 (by omega)
  have B1_3 : Arr (w.heap.size + 1) [.int .i64 0, .int .i64 0, .int .i64 0, .int .i64 0] w3 := (B1_2.alloc _).kept k3 (by omega)
  have B2_3 : Arr w2.heap.size [.int .i64 0, .int .i64 0, .int .i64 0, .int .i64 0] w3 := (Arr_at _ _ [.int .i64 0, .int .i64 0, .int .i64 0, .int .i64 0] _ (by simp)).kept k3 (by omega)
  have z3 := B2_3.lies
  clear c4_B0_0 l4_B0 K2 f2 B0_2 B1_2 k3
  go_wp2_with fail
  refine (rDiv_any b r3.2 r3.1 r2.1 _ f3).mono ?_
  rintro e w4 ⟨rfl, f4, k4⟩
  generalize e4 : divS r3.2 r3.1 r2.1 = r4 at f4 ⊢
  have E4 : Hid _ := e4
  clear e4
  have K4 : Kept b w w4 := Kept.trans K3 k4
  have B0_4 : Arr w.heap.size [.int .i64 p.1, .int .i64 p.2.1, .int .i64 p.2.2] w4 := B0_3.kept k4 (by omega)
  have B1_4 : Arr (w.heap.size + 1) [.int .i64 0, .int .i64 0, .int .i64 0, .int .i64 0] w4 := B1_3.kept k4 (by omega)
  have B2_4 : Arr w2.heap.size [.int .i64 0, .int .i64 0, .int .i64 0, .int .i64 0] w4 := B2_3.kept k4 (by omega)
  have z4 := B2_4.lies
  clear K3 f3 B0_3 B1_3 B2_3 k4
  have c6_B2_0 : w4.cell? ⟨w2.heap.size, 0, none⟩ = some (.int .i64 0) := B2_4.c 0 (of_decide_eq_true rfl)
  have g6_B2_0 := B2_4.f 0 (of_decide_eq_true rfl)
  go_wp2_with fail
  clear c6_B2_0 g6_B2_0
  refine rounds_letter (S := fun w' => Kept b w w' ∧ Fl b r4.2 w' ∧ Arr w.heap.size [.int .i64 p.1, .int .i64 p.2.1, .int .i64 p.2.2] w' ∧ Arr (w.heap.size + 1) [.int .i64 0, .int .i64 0, .int .i64 0, .int .i64 0] w' ∧ Arr w2.heap.size [.int .i64 r4.1, .int .i64 0, .int .i64 0, .int .i64 0] w') ⟨(K4.new _ _ (by omega) _), (f4.new w2.heap.size 0 (by omega) (.int .i64 r4.1)), (B0_4.new w2.heap.size 0 (by omega) (.int .i64 r4.1)), (B1_4.new w2.heap.size 0 (by omega) (.int .i64 r4.1)), (B2_4.put 0 (of_decide_eq_true rfl) (.int .i64 r4.1) [.int .i64 r4.1, .int .i64 0, .int .i64 0, .int .i64 0] rfl)⟩ ?_
  rintro w5 ⟨K5, BF_5, B0_5, B1_5, B2_5⟩
  have z5 := B2_5.lies
  clear K4 f4 B0_4 B1_4 B2_4
  rw [rounds_succ]
  have c7_B0_1 : w5.cell? ⟨w.heap.size, 1, none⟩ = some (.int .i64 p.2.1) := B0_5.c 1 (of_decide_eq_true rfl)
  go_wp2_with fail
  refine (rMul_any b r4.2 p.2.1 8796093022208 _ BF_5).mono ?_
  rintro e w6 ⟨rfl, f6, k6⟩
  generalize e6 : mulS r4.2 p.2.1 8796093022208 = r6 at f6 ⊢
  have E6 : Hid _ := e6
  clear e6
  have K6 : Kept b w w6 := Kept.trans K5 k6
  have B0_6 : Arr w.heap.size [.int .i64 p.1, .int .i64 p.2.1, .int .i64 p.2.2] w6 := B0_5.kept k6 (by omega)
  have B1_6 : Arr (w.heap.size + 1) [.int .i64 0, .int .i64 0, .int .i64 0, .int .i64 0] w6 := B1_5.kept k6 (by omega)
  have B2_6 : Arr w2.heap.size [.int .i64 r4.1, .int .i64 0, .int .i64 0, .int .i64 0] w6 := B2_5.kept k6 (by omega)
  have z6 := B2_6.lies
  clear c7_B0_1 K5 BF_5 B0_5 B1_5 B2_5 k6
  go_wp2_with fail
  refine (rDiv_any b r6.2 r6.1 r2.1 _ f6).mono ?_
  rintro e w7 ⟨rfl, f7, k7⟩
  generalize e7 : divS r6.2 r6.1 r2.1 = r7 at f7 ⊢
  have E7 : Hid _ := e7
  clear e7
  have K7 : Kept b w w7 := Kept.trans K6 k7
  have B0_7 : Arr w.heap.size [.int .i64 p.1, .int .i64 p.2.1, .int .i64 p.2.2] w7 := B0_6.kept k7 (by omega)
  have B1_7 : Arr (w.heap.size + 1) [.int .i64 0, .int .i64 0, .int .i64 0, .int .i64 0] w7 := B1_6.kept k7 (by omega)
  have B2_7 : Arr w2.heap.size [.int .i64 r4.1, .int .i64 0, .int .i64 0, .int .i64 0] w7 := B2_6.kept k7 (by omega)
  have z7 := B2_7.lies
  clear K6 f6 B0_6 B1_6 B2_6 k7
  have c9_B2_1 : w7.cell? ⟨w2.heap.size, 1, none⟩ = some (.int .i64 0) := B2_7.c 1 (of_decide_eq_true rfl)
  have g9_B2_1 := B2_7.f 1 (of_decide_eq_true rfl)
  go_wp2_with fail
  clear c9_B2_1 g9_B2_1
  refine rounds_letter (S := fun w' => Kept b w w' ∧ Fl b r7.2 w' ∧ Arr w.heap.size [.int .i64 p.1, .int .i64 p.2.1, .int .i64 p.2.2] w' ∧ Arr (w.heap.size + 1) [.int .i64 0, .int .i64 0, .int .i64 0, .int .i64 0] w' ∧ Arr w2.heap.size [.int .i64 r4.1, .int .i64 r7.1, .int .i64 0, .int .i64 0] w') ⟨(K7.new _ _ (by omega) _), (f7.new w2.heap.size 1 (by omega) (.int .i64 r7.1)), (B0_7.new w2.heap.size 1 (by omega) (.int .i64 r7.1)), (B1_7.new w2.heap.size 1 (by omega) (.int .i64 r7.1)), (B2_7.put 1 (of_decide_eq_true rfl) (.int .i64 r7.1) [.int .i64 r4.1, .int .i64 r7.1, .int .i64 0, .int .i64 0] rfl)⟩ ?_
  rintro w8 ⟨K8, BF_8, B0_8, B1_8, B2_8⟩
  have z8 := B2_8.lies
  clear K7 f7 B0_7 B1_7 B2_7
  rw [rounds_succ]
  have c10_B0_2 : w8.cell? ⟨w.heap.size, 2, none⟩ = some (.int .i64 p.2.2) := B0_8.c 2 (of_decide_eq_true rfl)
  go_wp2_with fail
  refine (rMul_any b r7.2 p.2.2 8796093022208 _ BF_8).mono ?_
  rintro e w9 ⟨rfl, f9, k9⟩
  generalize e9 : mulS r7.2 p.2.2 8796093022208 = r9 at f9 ⊢
  have E9 : Hid _ := e9
  clear e9
  have K9 : Kept b w w9 := Kept.trans K8 k9
  have B0_9 : Arr w.heap.size [.int .i64 p.1, .int .i64 p.2.1, .int .i64 p.2.2] w9 := B0_8.kept k9 (by omega)
  have B1_9 : Arr (w.heap.size + 1) [.int .i64 0, .int .i64 0, .int .i64 0, .int .i64 0] w9 := B1_8.kept k9 (by omega)
  have B2_9 : Arr w2.heap.size [.int .i64 r4.1, .int .i64 r7.1, .int .i64 0, .int .i64 0] w9 := B2_8.kept k9 (by omega)
  have z9 := B2_9.lies
  clear c10_B0_2 K8 BF_8 B0_8 B1_8 B2_8 k9
  go_wp2_with fail
  refine (rDiv_any b r9.2 r9.1 r2.1 _ f9).mono ?_
  rintro e w10 ⟨rfl, f10, k10⟩
  generalize e10 : divS r9.2 r9.1 r2.1 = r10 at f10 ⊢
  have E10 : Hid _ := e10
  clear e10
  have K10 : Kept b w w10 := Kept.trans K9 k10
  have B0_10 : Arr w.heap.size [.int .i64 p.1, .int .i64 p.2.1, .int .i64 p.2.2] w10 := B0_9.kept k10 (by omega)
  have B1_10 : Arr (w.heap.size + 1) [.int .i64 0, .int .i64 0, .int .i64 0, .int .i64 0] w10 := B1_9.kept k10 (by omega)
  have B2_10 : Arr w2.heap.size [.int .i64 r4.1, .int .i64 r7.1, .int .i64 0, .int .i64 0] w10 := B2_9.kept k10 (by omega)
  have z10 := B2_10.lies
  clear K9 f9 B0_9 B1_9 B2_9 k10
  have c12_B2_2 : w10.cell? ⟨w2.heap.size, 2, none⟩ = some (.int .i64 0) := B2_10.c 2 (of_decide_eq_true rfl)
  have g12_B2_2 := B2_10.f 2 (of_decide_eq_true rfl)
  go_wp2_with fail
  clear c12_B2_2 g12_B2_2
  refine rounds_letter (S := fun w' => Kept b w w' ∧ Fl b r10.2 w' ∧ Arr w.heap.size [.int .i64 p.1, .int .i64 p.2.1, .int .i64 p.2.2] w' ∧ Arr (w.heap.size + 1) [.int .i64 0, .int .i64 0, .int .i64 0, .int .i64 0] w' ∧ Arr w2.heap.size [.int .i64 r4.1, .int .i64 r7.1, .int .i64 r10.1, .int .i64 0] w') ⟨(K10.new _ _ (by omega) _), (f10.new w2.heap.size 2 (by omega) (.int .i64 r10.1)), (B0_10.new w2.heap.size 2 (by omega) (.int .i64 r10.1)), (B1_10.new w2.heap.size 2 (by omega) (.int .i64 r10.1)), (B2_10.put 2 (of_decide_eq_true rfl) (.int .i64 r10.1) [.int .i64 r4.1, .int .i64 r7.1, .int .i64 r10.1, .int .i64 0] rfl)⟩ ?_
  rintro w11 ⟨K11, BF_11, B0_11, B1_11, B2_11⟩
  have z11 := B2_11.lies
  clear K10 f10 B0_10 B1_10 B2_10
  rw [rounds_succ]
  go_wp2_with fail
  refine (rSub_any b r10.2 17592186044416 r1.1 _ BF_11).mono ?_
  rintro e w12 ⟨rfl, f12, k12⟩
  generalize e12 : subS r10.2 17592186044416 r1.1 = r12 at f12 ⊢
  have E12 : Hid _ := e12
  clear e12
  have K12 : Kept b w w12 := Kept.trans K11 k12
  have B0_12 : Arr w.heap.size [.int .i64 p.1, .int .i64 p.2.1, .int .i64 p.2.2] w12 := B0_11.kept k12 (by omega)
  have B1_12 : Arr (w.heap.size + 1) [.int .i64 0, .int .i64 0, .int .i64 0, .int .i64 0] w12 := B1_11.kept k12 (by omega)
  have B2_12 : Arr w2.heap.size [.int .i64 r4.1, .int .i64 r7.1, .int .i64 r10.1, .int .i64 0] w12 := B2_11.kept k12 (by omega)
  have z12 := B2_12.lies
  clear K11 BF_11 B0_11 B1_11 B2_11 k12
  go_wp2_with fail
  refine (rDiv_any b r12.2 r12.1 r2.1 _ f12).mono ?_
  rintro e w13 ⟨rfl, f13, k13⟩
  generalize e13 : divS r12.2 r12.1 r2.1 = r13 at f13 ⊢
  have E13 : Hid _ := e13
  clear e13
  have K13 : Kept b w w13 := Kept.trans K12 k13
  have B0_13 : Arr w.heap.size [.int .i64 p.1, .int .i64 p.2.1, .int .i64 p.2.2] w13 := B0_12.kept k13 (by omega)
  have B1_13 : Arr (w.heap.size + 1) [.int .i64 0, .int .i64 0, .int .i64 0, .int .i64 0] w13 := B1_12.kept k13 (by omega)
  have B2_13 : Arr w2.heap.size [.int .i64 r4.1, .int .i64 r7.1, .int .i64 r10.1, .int .i64 0] w13 := B2_12.kept k13 (by omega)
  have z13 := B2_13.lies
  clear K12 f12 B0_12 B1_12 B2_12 k13
  have c15_B2_0 : w13.cell? ⟨w2.heap.size, 0, none⟩ = some (.int .i64 r4.1) := B2_13.c 0 (of_decide_eq_true rfl)
  have c15_B2_1 : w13.cell? ⟨w2.heap.size, 1, none⟩ = some (.int .i64 r7.1) := B2_13.c 1 (of_decide_eq_true rfl)
  have c15_B2_2 : w13.cell? ⟨w2.heap.size, 2, none⟩ = some (.int .i64 r10.1) := B2_13.c 2 (of_decide_eq_true rfl)
  have c15_B2_3 : w13.cell? ⟨w2.heap.size, 3, none⟩ = some (.int .i64 0) := B2_13.c 3 (of_decide_eq_true rfl)
  have g15_B2_3 := B2_13.f 3 (of_decide_eq_true rfl)
  go_wp2_with fail
  refine (xUnit_any b r13.2 (r4.1, r7.1, r10.1, r13.1) _ (f13.new w2.heap.size 3 (by omega) (.int .i64 r13.1))).mono ?_
  rintro e w14 ⟨rfl, f14, k14⟩
  generalize e14 : xUnitS r13.2 (r4.1, r7.1, r10.1, r13.1) = r14 at f14 ⊢
  have E14 : Hid _ := e14
  clear e14
  have K14 : Kept b w w14 := Kept.trans (K13.new _ _ (by omega) _) k14
  have B0_14 : Arr w.heap.size [.int .i64 p.1, .int .i64 p.2.1, .int .i64 p.2.2] w14 := (B0_13.new w2.heap.size 3 (by omega) (.int .i64 r13.1)).kept k14 (by omega)
  have B1_14 : Arr (w.heap.size + 1) [.int .i64 0, .int .i64 0, .int .i64 0, .int .i64 0] w14 := (B1_13.new w2.heap.size 3 (by omega) (.int .i64 r13.1)).kept k14 (by omega)
  have B2_14 : Arr w2.heap.size [.int .i64 r4.1, .int .i64 r7.1, .int .i64 r10.1, .int .i64 r13.1] w14 := (B2_13.put 3 (of_decide_eq_true rfl) (.int .i64 r13.1) [.int .i64 r4.1, .int .i64 r7.1, .int .i64 r10.1, .int .i64 r13.1] rfl).kept k14 (by omega)
  have z14 := B2_14.lies
  clear c15_B2_0 c15_B2_1 c15_B2_2 c15_B2_3 g15_B2_3 K13 f13 B0_13 B1_13 B2_13 k14
  have c16_B1_0 : w14.cell? ⟨w.heap.size + 1, 0, none⟩ = some (.int .i64 0) := B1_14.c 0 (of_decide_eq_true rfl)
  have c16_B1_1 : w14.cell? ⟨w.heap.size + 1, 1, none⟩ = some (.int .i64 0) := B1_14.c 1 (of_decide_eq_true rfl)
  have c16_B1_2 : w14.cell? ⟨w.heap.size + 1, 2, none⟩ = some (.int .i64 0) := B1_14.c 2 (of_decide_eq_true rfl)
  have c16_B1_3 : w14.cell? ⟨w.heap.size + 1, 3, none⟩ = some (.int .i64 0) := B1_14.c 3 (of_decide_eq_true rfl)
  have g16_B1_0 := B1_14.f 0 (of_decide_eq_true rfl)
  have g16_B1_1 := B1_14.f 1 (of_decide_eq_true rfl)
  have g16_B1_2 := B1_14.f 2 (of_decide_eq_true rfl)
  have g16_B1_3 := B1_14.f 3 (of_decide_eq_true rfl)
  go_wp2
  clear c16_B1_0 c16_B1_1 c16_B1_2 c16_B1_3 g16_B1_0 g16_B1_1 g16_B1_2 g16_B1_3
  have d0 := Arr.c (B1_14.put 0 (of_decide_eq_true rfl) (.int .i64 r14.1.1) [.int .i64 r14.1.1, .int .i64 0, .int .i64 0, .int .i64 0] rfl) 0 (of_decide_eq_true rfl)
  have d1 := Arr.c ((B1_14.put 0 (of_decide_eq_true rfl) (.int .i64 r14.1.1) [.int .i64 r14.1.1, .int .i64 0, .int .i64 0, .int .i64 0] rfl).put 1 (of_decide_eq_true rfl) (.int .i64 r14.1.2.1) [.int .i64 r14.1.1, .int .i64 r14.1.2.1, .int .i64 0, .int .i64 0] rfl) 1 (of_decide_eq_true rfl)
  have d2 := Arr.c (((B1_14.put 0 (of_decide_eq_true rfl) (.int .i64 r14.1.1) [.int .i64 r14.1.1, .int .i64 0, .int .i64 0, .int .i64 0] rfl).put 1 (of_decide_eq_true rfl) (.int .i64 r14.1.2.1) [.int .i64 r14.1.1, .int .i64 r14.1.2.1, .int .i64 0, .int .i64 0] rfl).put 2 (of_decide_eq_true rfl) (.int .i64 r14.1.2.2.1) [.int .i64 r14.1.1, .int .i64 r14.1.2.1, .int .i64 r14.1.2.2.1, .int .i64 0] rfl) 2 (of_decide_eq_true rfl)
  have d3 := Arr.c ((((B1_14.put 0 (of_decide_eq_true rfl) (.int .i64 r14.1.1) [.int .i64 r14.1.1, .int .i64 0, .int .i64 0, .int .i64 0] rfl).put 1 (of_decide_eq_true rfl) (.int .i64 r14.1.2.1) [.int .i64 r14.1.1, .int .i64 r14.1.2.1, .int .i64 0, .int .i64 0] rfl).put 2 (of_decide_eq_true rfl) (.int .i64 r14.1.2.2.1) [.int .i64 r14.1.1, .int .i64 r14.1.2.1, .int .i64 r14.1.2.2.1, .int .i64 0] rfl).put 3 (of_decide_eq_true rfl) (.int .i64 r14.1.2.2.2) [.int .i64 r14.1.1, .int .i64 r14.1.2.1, .int .i64 r14.1.2.2.1, .int .i64 r14.1.2.2.2] rfl) 3 (of_decide_eq_true rfl)
  refine bodyPost_ret (v := .agg #[.int .i64 r14.1.1, .int .i64 r14.1.2.1, .int .i64 r14.1.2.2.1, .int .i64 r14.1.2.2.2]) (by simp [results, Try.results19, go_sem, d0, d1, d2, d3]) rfl ?_
  have hs : xFromRodS bad p = (r14.1, r14.2) := by unfold xFromRodS; simp only [E1.out, E2.out, E3.out, E4.out, E6.out, E7.out, E9.out, E10.out, E12.out, E13.out, E14.out]
  rw [hs]
  exact ⟨rfl, ((((f14.new (w.heap.size + 1) 0 (by omega) (.int .i64 r14.1.1)).new (w.heap.size + 1) 1 (by omega) (.int .i64 r14.1.2.1)).new (w.heap.size + 1) 2 (by omega) (.int .i64 r14.1.2.2.1)).new (w.heap.size + 1) 3 (by omega) (.int .i64 r14.1.2.2.2)), ((((K14.new _ _ (by omega) _).new _ _ (by omega) _).new _ _ (by omega) _).new _ _ (by omega) _)⟩
end Go.Proofs.Yteooceapkkdcpaa
