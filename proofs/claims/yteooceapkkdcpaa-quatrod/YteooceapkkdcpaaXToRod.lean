/-
  Walks of package alidaderef04, for the seat Yteooceapkkdcpaa. (Made by mkref04.py.)
-/
import Derived.Test.YteooceapkkdcpaaXBase
import Derived.Test.YteooceapkkdcpaaRMeth
import Derived.Handy
import Derived.Deep.RegionHeld3
namespace Go.Proofs.Yteooceapkkdcpaa
open Go.RowKit

set_option maxRecDepth 100000 in
set_option maxHeartbeats 2000000 in
theorem xToRod_any (b : Nat) (bad : Bool) (q : V4) (w : World) (hw : Fl b bad w) :
    Calls Try.prog 21 #[.pointer (some ⟨b, 0, none⟩), .agg #[.int .i64 q.1, .int .i64 q.2.1, .int .i64 q.2.2.1, .int .i64 q.2.2.2]] w fun e w' => e = .returned (.agg #[.int .i64 ((xToRodS bad q).1.1), .int .i64 ((xToRodS bad q).1.2.1), .int .i64 ((xToRodS bad q).1.2.2)]) ∧ Fl b (xToRodS bad q).2 w' ∧ Kept b w w' := by
  have hl := hw.lies
  go_enter Try.func21, Try.ntmps21
  go_wp2_with fail
  refine wp_loop_rounds 5 ?_
  rw [rounds_succ]
  go_wp2_with fail
  refine (rAdd_any b bad q.1 0 _ ((hw.alloc _).alloc _)).mono ?_
  rintro e w1 ⟨rfl, f1, k1⟩
  generalize e1 : addS bad q.1 0 = r1 at f1 ⊢
  have E1 : Hid _ := e1
  clear e1
  have K1 : Kept b w w1 := Kept.trans (((Kept.refl b w).al _).al _) k1
  have B0_1 : Arr w.heap.size [.int .i64 q.1, .int .i64 q.2.1, .int .i64 q.2.2.1, .int .i64 q.2.2.2] w1 := ((Arr_at _ _ [.int .i64 q.1, .int .i64 q.2.1, .int .i64 q.2.2.1, .int .i64 q.2.2.2] _ (by simp)).alloc _).kept k1 (by omega)
  have B1_1 : Arr (w.heap.size + 1) [.int .i64 0, .int .i64 0, .int .i64 0] w1 := (Arr_at _ _ [.int .i64 0, .int .i64 0, .int .i64 0] _ (by simp)).kept k1 (by omega)
  have z1 := B1_1.lies
  clear k1
  go_wp2_with fail
  rw [rounds_succ]
  have c4_B0_1 : w1.cell? ⟨w.heap.size, 1, none⟩ = some (.int .i64 q.2.1) := B0_1.c 1 (of_decide_eq_true rfl)
  go_wp2_with fail
  refine (rAdd_any b r1.2 q.2.1 0 _ f1).mono ?_
  rintro e w2 ⟨rfl, f2, k2⟩
  generalize e2 : addS r1.2 q.2.1 0 = r2 at f2 ⊢
  have E2 : Hid _ := e2
  clear e2
  have K2 : Kept b w w2 := Kept.trans K1 k2
  have B0_2 : Arr w.heap.size [.int .i64 q.1, .int .i64 q.2.1, .int .i64 q.2.2.1, .int .i64 q.2.2.2] w2 := B0_1.kept k2 (by omega)
  have B1_2 : Arr (w.heap.size + 1) [.int .i64 0, .int .i64 0, .int .i64 0] w2 := B1_1.kept k2 (by omega)
  have z2 := B1_2.lies
  clear c4_B0_1 K1 f1 B0_1 B1_1 k2
  go_wp2_with fail
  rw [rounds_succ]
  have c6_B0_2 : w2.cell? ⟨w.heap.size, 2, none⟩ = some (.int .i64 q.2.2.1) := B0_2.c 2 (of_decide_eq_true rfl)
  go_wp2_with fail
  refine (rAdd_any b r2.2 q.2.2.1 0 _ f2).mono ?_
  rintro e w3 ⟨rfl, f3, k3⟩
  generalize e3 : addS r2.2 q.2.2.1 0 = r3 at f3 ⊢
  have E3 : Hid _ := e3
  clear e3
  have K3 : Kept b w w3 := Kept.trans K2 k3
  have B0_3 : Arr w.heap.size [.int .i64 q.1, .int .i64 q.2.1, .int .i64 q.2.2.1, .int .i64 q.2.2.2] w3 := B0_2.kept k3 (by omega)
  have B1_3 : Arr (w.heap.size + 1) [.int .i64 0, .int .i64 0, .int .i64 0] w3 := B1_2.kept k3 (by omega)
  have z3 := B1_3.lies
  clear c6_B0_2 K2 f2 B0_2 B1_2 k3
  go_wp2_with fail
  rw [rounds_succ]
  have c8_B0_3 : w3.cell? ⟨w.heap.size, 3, none⟩ = some (.int .i64 q.2.2.2) := B0_3.c 3 (of_decide_eq_true rfl)
  go_wp2_with fail
  refine (rAdd_any b r3.2 q.2.2.2 0 _ f3).mono ?_
  rintro e w4 ⟨rfl, f4, k4⟩
  generalize e4 : addS r3.2 q.2.2.2 0 = r4 at f4 ⊢
  have E4 : Hid _ := e4
  clear e4
  have K4 : Kept b w w4 := Kept.trans K3 k4
  have B0_4 : Arr w.heap.size [.int .i64 q.1, .int .i64 q.2.1, .int .i64 q.2.2.1, .int .i64 q.2.2.2] w4 := B0_3.kept k4 (by omega)
  have B1_4 : Arr (w.heap.size + 1) [.int .i64 0, .int .i64 0, .int .i64 0] w4 := B1_3.kept k4 (by omega)
  have z4 := B1_4.lies
  clear c8_B0_3 K3 f3 B0_3 B1_3 k4
  go_wp2_with fail
  rw [rounds_succ]
  rcases Bool.eq_false_or_eq_true r4.2 with hc1 | hc1
  · have Hhc1 : Hid (r4.2 = true) := hc1
    have c10_B1_0 : w4.cell? ⟨w.heap.size + 1, 0, none⟩ = some (.int .i64 0) := B1_4.c 0 (of_decide_eq_true rfl)
    have c10_B1_1 : w4.cell? ⟨w.heap.size + 1, 1, none⟩ = some (.int .i64 0) := B1_4.c 1 (of_decide_eq_true rfl)
    have c10_B1_2 : w4.cell? ⟨w.heap.size + 1, 2, none⟩ = some (.int .i64 0) := B1_4.c 2 (of_decide_eq_true rfl)
    have c10_BF := f4.cell
    have g10_B1_0 := B1_4.f 0 (of_decide_eq_true rfl)
    have g10_B1_1 := B1_4.f 1 (of_decide_eq_true rfl)
    have g10_B1_2 := B1_4.f 2 (of_decide_eq_true rfl)
    go_wp2
    clear c10_B1_0 c10_B1_1 c10_B1_2 c10_BF g10_B1_0 g10_B1_1 g10_B1_2
    have d0 := Arr.c (B1_4.put 0 (of_decide_eq_true rfl) (.int .i64 0) [.int .i64 0, .int .i64 0, .int .i64 0] rfl) 0 (of_decide_eq_true rfl)
    have d1 := Arr.c ((B1_4.put 0 (of_decide_eq_true rfl) (.int .i64 0) [.int .i64 0, .int .i64 0, .int .i64 0] rfl).put 1 (of_decide_eq_true rfl) (.int .i64 0) [.int .i64 0, .int .i64 0, .int .i64 0] rfl) 1 (of_decide_eq_true rfl)
    have d2 := Arr.c (((B1_4.put 0 (of_decide_eq_true rfl) (.int .i64 0) [.int .i64 0, .int .i64 0, .int .i64 0] rfl).put 1 (of_decide_eq_true rfl) (.int .i64 0) [.int .i64 0, .int .i64 0, .int .i64 0] rfl).put 2 (of_decide_eq_true rfl) (.int .i64 0) [.int .i64 0, .int .i64 0, .int .i64 0] rfl) 2 (of_decide_eq_true rfl)
    refine bodyPost_ret (v := .agg #[.int .i64 0, .int .i64 0, .int .i64 0]) (by simp [results, Try.results21, go_sem, d0, d1, d2]) rfl ?_
    have hs : xToRodS bad q = ((0, 0, 0), r4.2) := by unfold xToRodS; simp only [E1.out, E2.out, E3.out, E4.out]; rw [if_pos Hhc1.out]
    rw [hs]
    exact ⟨rfl, (((f4.new (w.heap.size + 1) 0 (by omega) (.int .i64 0)).new (w.heap.size + 1) 1 (by omega) (.int .i64 0)).new (w.heap.size + 1) 2 (by omega) (.int .i64 0)), (((K4.new _ _ (by omega) _).new _ _ (by omega) _).new _ _ (by omega) _)⟩
  · have Hhc1 : Hid (r4.2 = false) := hc1
    by_cases hc2 : q.2.2.2 < 0
    · have Hhc2 : Hid (q.2.2.2 < 0) := hc2
      have c10_B0_3 : w4.cell? ⟨w.heap.size, 3, none⟩ = some (.int .i64 q.2.2.2) := B0_4.c 3 (of_decide_eq_true rfl)
      have c10_BF := f4.cell
      go_wp2_with fail
      clear c10_B0_3 c10_BF
      refine wp_loop_rounds 5 ?_
      rw [rounds_succ]
      have c11_B0_0 : w4.cell? ⟨w.heap.size, 0, none⟩ = some (.int .i64 q.1) := B0_4.c 0 (of_decide_eq_true rfl)
      have g11_B0_0 := B0_4.f 0 (of_decide_eq_true rfl)
      have q11_2 : -4611686018427387904 ≤ q.1 ∧ q.1 ≤ 4611686018427387904 := (rod_rng E1.out E2.out E3.out E4.out Hhc1.out).1
      obtain ⟨q11_2a, q11_2b⟩ := q11_2
      go_wp2_with fail
      clear c11_B0_0 g11_B0_0 q11_2a q11_2b
      refine rounds_letter (S := fun w' => Kept b w w' ∧ Fl b r4.2 w' ∧ Arr w.heap.size [.int .i64 (-q.1), .int .i64 q.2.1, .int .i64 q.2.2.1, .int .i64 q.2.2.2] w' ∧ Arr (w.heap.size + 1) [.int .i64 0, .int .i64 0, .int .i64 0] w') ⟨(K4.new _ _ (by omega) _), (f4.new w.heap.size 0 (by omega) (.int .i64 (-q.1))), (B0_4.put 0 (of_decide_eq_true rfl) (.int .i64 (-q.1)) [.int .i64 (-q.1), .int .i64 q.2.1, .int .i64 q.2.2.1, .int .i64 q.2.2.2] rfl), (B1_4.new w.heap.size 0 (by omega) (.int .i64 (-q.1)))⟩ ?_
      rintro w5 ⟨K5, BF_5, B0_5, B1_5⟩
      have z5 := B1_5.lies
      clear K4 f4 B0_4 B1_4
      rw [rounds_succ]
      have c12_B0_1 : w5.cell? ⟨w.heap.size, 1, none⟩ = some (.int .i64 q.2.1) := B0_5.c 1 (of_decide_eq_true rfl)
      have g12_B0_1 := B0_5.f 1 (of_decide_eq_true rfl)
      have q12_2 : -4611686018427387904 ≤ q.2.1 ∧ q.2.1 ≤ 4611686018427387904 := (rod_rng E1.out E2.out E3.out E4.out Hhc1.out).2.1
      obtain ⟨q12_2a, q12_2b⟩ := q12_2
      go_wp2_with fail
      clear c12_B0_1 g12_B0_1 q12_2a q12_2b
      refine rounds_letter (S := fun w' => Kept b w w' ∧ Fl b r4.2 w' ∧ Arr w.heap.size [.int .i64 (-q.1), .int .i64 (-q.2.1), .int .i64 q.2.2.1, .int .i64 q.2.2.2] w' ∧ Arr (w.heap.size + 1) [.int .i64 0, .int .i64 0, .int .i64 0] w') ⟨(K5.new _ _ (by omega) _), (BF_5.new w.heap.size 1 (by omega) (.int .i64 (-q.2.1))), (B0_5.put 1 (of_decide_eq_true rfl) (.int .i64 (-q.2.1)) [.int .i64 (-q.1), .int .i64 (-q.2.1), .int .i64 q.2.2.1, .int .i64 q.2.2.2] rfl), (B1_5.new w.heap.size 1 (by omega) (.int .i64 (-q.2.1)))⟩ ?_
      rintro w6 ⟨K6, BF_6, B0_6, B1_6⟩
      have z6 := B1_6.lies
      clear K5 BF_5 B0_5 B1_5
      rw [rounds_succ]
      have c13_B0_2 : w6.cell? ⟨w.heap.size, 2, none⟩ = some (.int .i64 q.2.2.1) := B0_6.c 2 (of_decide_eq_true rfl)
      have g13_B0_2 := B0_6.f 2 (of_decide_eq_true rfl)
      have q13_2 : -4611686018427387904 ≤ q.2.2.1 ∧ q.2.2.1 ≤ 4611686018427387904 := (rod_rng E1.out E2.out E3.out E4.out Hhc1.out).2.2.1
      obtain ⟨q13_2a, q13_2b⟩ := q13_2
      go_wp2_with fail
      clear c13_B0_2 g13_B0_2 q13_2a q13_2b
      refine rounds_letter (S := fun w' => Kept b w w' ∧ Fl b r4.2 w' ∧ Arr w.heap.size [.int .i64 (-q.1), .int .i64 (-q.2.1), .int .i64 (-q.2.2.1), .int .i64 q.2.2.2] w' ∧ Arr (w.heap.size + 1) [.int .i64 0, .int .i64 0, .int .i64 0] w') ⟨(K6.new _ _ (by omega) _), (BF_6.new w.heap.size 2 (by omega) (.int .i64 (-q.2.2.1))), (B0_6.put 2 (of_decide_eq_true rfl) (.int .i64 (-q.2.2.1)) [.int .i64 (-q.1), .int .i64 (-q.2.1), .int .i64 (-q.2.2.1), .int .i64 q.2.2.2] rfl), (B1_6.new w.heap.size 2 (by omega) (.int .i64 (-q.2.2.1)))⟩ ?_
      rintro w7 ⟨K7, BF_7, B0_7, B1_7⟩
      have z7 := B1_7.lies
      clear K6 BF_6 B0_6 B1_6
      rw [rounds_succ]
      have c14_B0_3 : w7.cell? ⟨w.heap.size, 3, none⟩ = some (.int .i64 q.2.2.2) := B0_7.c 3 (of_decide_eq_true rfl)
      have g14_B0_3 := B0_7.f 3 (of_decide_eq_true rfl)
      have q14_2 : -4611686018427387904 ≤ q.2.2.2 ∧ q.2.2.2 ≤ 4611686018427387904 := (rod_rng E1.out E2.out E3.out E4.out Hhc1.out).2.2.2
      obtain ⟨q14_2a, q14_2b⟩ := q14_2
      go_wp2_with fail
      clear c14_B0_3 g14_B0_3 q14_2a q14_2b
      refine rounds_letter (S := fun w' => Kept b w w' ∧ Fl b r4.2 w' ∧ Arr w.heap.size [.int .i64 (-q.1), .int .i64 (-q.2.1), .int .i64 (-q.2.2.1), .int .i64 (-q.2.2.2)] w' ∧ Arr (w.heap.size + 1) [.int .i64 0, .int .i64 0, .int .i64 0] w') ⟨(K7.new _ _ (by omega) _), (BF_7.new w.heap.size 3 (by omega) (.int .i64 (-q.2.2.2))), (B0_7.put 3 (of_decide_eq_true rfl) (.int .i64 (-q.2.2.2)) [.int .i64 (-q.1), .int .i64 (-q.2.1), .int .i64 (-q.2.2.1), .int .i64 (-q.2.2.2)] rfl), (B1_7.new w.heap.size 3 (by omega) (.int .i64 (-q.2.2.2)))⟩ ?_
      rintro w8 ⟨K8, BF_8, B0_8, B1_8⟩
      have z8 := B1_8.lies
      clear K7 BF_7 B0_7 B1_7
      rw [rounds_succ]
      have c15_B0_3 : w8.cell? ⟨w.heap.size, 3, none⟩ = some (.int .i64 (-q.2.2.2)) := B0_8.c 3 (of_decide_eq_true rfl)
      go_wp2_with fail
      refine (rAdd_any b r4.2 1099511627776 (-q.2.2.2) _ BF_8).mono ?_
      rintro e w9 ⟨rfl, f9, k9⟩
      generalize e9 : addS r4.2 1099511627776 (-q.2.2.2) = r9 at f9 ⊢
      have E9 : Hid _ := e9
      clear e9
      have K9 : Kept b w w9 := Kept.trans K8 k9
      have B0_9 : Arr w.heap.size [.int .i64 (-q.1), .int .i64 (-q.2.1), .int .i64 (-q.2.2.1), .int .i64 (-q.2.2.2)] w9 := B0_8.kept k9 (by omega)
      have B1_9 : Arr (w.heap.size + 1) [.int .i64 0, .int .i64 0, .int .i64 0] w9 := B1_8.kept k9 (by omega)
      have z9 := B1_9.lies
      clear c15_B0_3 K8 BF_8 B0_8 B1_8 k9
      go_wp2_with fail
      refine wp_loop_rounds 4 ?_
      rw [rounds_succ]
      have c17_B0_0 : w9.cell? ⟨w.heap.size, 0, none⟩ = some (.int .i64 (-q.1)) := B0_9.c 0 (of_decide_eq_true rfl)
      have l17_B0 := B0_9.lies
      go_wp2_with fail
      refine (rMul_any b r9.2 (-q.1) 4398046511104 _ (f9.alloc _)).mono ?_
      rintro e w10 ⟨rfl, f10, k10⟩
      generalize e10 : mulS r9.2 (-q.1) 4398046511104 = r10 at f10 ⊢
      have E10 : Hid _ := e10
      clear e10
      have K10 : Kept b w w10 := Kept.trans (K9.al _) k10
      have B0_10 : Arr w.heap.size [.int .i64 (-q.1), .int .i64 (-q.2.1), .int .i64 (-q.2.2.1), .int .i64 (-q.2.2.2)] w10 := (B0_9.alloc _).kept k10 (by omega)
      have B1_10 : Arr (w.heap.size + 1) [.int .i64 0, .int .i64 0, .int .i64 0] w10 := (B1_9.alloc _).kept k10 (by omega)
      have B2_10 : Arr w9.heap.size [.int .i64 0, .int .i64 0, .int .i64 0] w10 := (Arr_at _ _ [.int .i64 0, .int .i64 0, .int .i64 0] _ (by simp)).kept k10 (by omega)
      have z10 := B2_10.lies
      clear c17_B0_0 l17_B0 K9 f9 B0_9 B1_9 k10
      go_wp2_with fail
      refine (rDiv_any b r10.2 r10.1 r9.1 _ f10).mono ?_
      rintro e w11 ⟨rfl, f11, k11⟩
      generalize e11 : divS r10.2 r10.1 r9.1 = r11 at f11 ⊢
      have E11 : Hid _ := e11
      clear e11
      have K11 : Kept b w w11 := Kept.trans K10 k11
      have B0_11 : Arr w.heap.size [.int .i64 (-q.1), .int .i64 (-q.2.1), .int .i64 (-q.2.2.1), .int .i64 (-q.2.2.2)] w11 := B0_10.kept k11 (by omega)
      have B1_11 : Arr (w.heap.size + 1) [.int .i64 0, .int .i64 0, .int .i64 0] w11 := B1_10.kept k11 (by omega)
      have B2_11 : Arr w9.heap.size [.int .i64 0, .int .i64 0, .int .i64 0] w11 := B2_10.kept k11 (by omega)
      have z11 := B2_11.lies
      clear K10 f10 B0_10 B1_10 B2_10 k11
      have c19_B2_0 : w11.cell? ⟨w9.heap.size, 0, none⟩ = some (.int .i64 0) := B2_11.c 0 (of_decide_eq_true rfl)
      have g19_B2_0 := B2_11.f 0 (of_decide_eq_true rfl)
      go_wp2_with fail
      clear c19_B2_0 g19_B2_0
      refine rounds_letter (S := fun w' => Kept b w w' ∧ Fl b r11.2 w' ∧ Arr w.heap.size [.int .i64 (-q.1), .int .i64 (-q.2.1), .int .i64 (-q.2.2.1), .int .i64 (-q.2.2.2)] w' ∧ Arr (w.heap.size + 1) [.int .i64 0, .int .i64 0, .int .i64 0] w' ∧ Arr w9.heap.size [.int .i64 r11.1, .int .i64 0, .int .i64 0] w') ⟨(K11.new _ _ (by omega) _), (f11.new w9.heap.size 0 (by omega) (.int .i64 r11.1)), (B0_11.new w9.heap.size 0 (by omega) (.int .i64 r11.1)), (B1_11.new w9.heap.size 0 (by omega) (.int .i64 r11.1)), (B2_11.put 0 (of_decide_eq_true rfl) (.int .i64 r11.1) [.int .i64 r11.1, .int .i64 0, .int .i64 0] rfl)⟩ ?_
      rintro w12 ⟨K12, BF_12, B0_12, B1_12, B2_12⟩
      have z12 := B2_12.lies
      clear K11 f11 B0_11 B1_11 B2_11
      rw [rounds_succ]
      have c20_B0_1 : w12.cell? ⟨w.heap.size, 1, none⟩ = some (.int .i64 (-q.2.1)) := B0_12.c 1 (of_decide_eq_true rfl)
      go_wp2_with fail
      refine (rMul_any b r11.2 (-q.2.1) 4398046511104 _ BF_12).mono ?_
      rintro e w13 ⟨rfl, f13, k13⟩
      generalize e13 : mulS r11.2 (-q.2.1) 4398046511104 = r13 at f13 ⊢
      have E13 : Hid _ := e13
      clear e13
      have K13 : Kept b w w13 := Kept.trans K12 k13
      have B0_13 : Arr w.heap.size [.int .i64 (-q.1), .int .i64 (-q.2.1), .int .i64 (-q.2.2.1), .int .i64 (-q.2.2.2)] w13 := B0_12.kept k13 (by omega)
      have B1_13 : Arr (w.heap.size + 1) [.int .i64 0, .int .i64 0, .int .i64 0] w13 := B1_12.kept k13 (by omega)
      have B2_13 : Arr w9.heap.size [.int .i64 r11.1, .int .i64 0, .int .i64 0] w13 := B2_12.kept k13 (by omega)
      have z13 := B2_13.lies
      clear c20_B0_1 K12 BF_12 B0_12 B1_12 B2_12 k13
      go_wp2_with fail
      refine (rDiv_any b r13.2 r13.1 r9.1 _ f13).mono ?_
      rintro e w14 ⟨rfl, f14, k14⟩
      generalize e14 : divS r13.2 r13.1 r9.1 = r14 at f14 ⊢
      have E14 : Hid _ := e14
      clear e14
      have K14 : Kept b w w14 := Kept.trans K13 k14
      have B0_14 : Arr w.heap.size [.int .i64 (-q.1), .int .i64 (-q.2.1), .int .i64 (-q.2.2.1), .int .i64 (-q.2.2.2)] w14 := B0_13.kept k14 (by omega)
      have B1_14 : Arr (w.heap.size + 1) [.int .i64 0, .int .i64 0, .int .i64 0] w14 := B1_13.kept k14 (by omega)
      have B2_14 : Arr w9.heap.size [.int .i64 r11.1, .int .i64 0, .int .i64 0] w14 := B2_13.kept k14 (by omega)
      have z14 := B2_14.lies
      clear K13 f13 B0_13 B1_13 B2_13 k14
      have c22_B2_1 : w14.cell? ⟨w9.heap.size, 1, none⟩ = some (.int .i64 0) := B2_14.c 1 (of_decide_eq_true rfl)
      have g22_B2_1 := B2_14.f 1 (of_decide_eq_true rfl)
      go_wp2_with fail
      clear c22_B2_1 g22_B2_1
      refine rounds_letter (S := fun w' => Kept b w w' ∧ Fl b r14.2 w' ∧ Arr w.heap.size [.int .i64 (-q.1), .int .i64 (-q.2.1), .int .i64 (-q.2.2.1), .int .i64 (-q.2.2.2)] w' ∧ Arr (w.heap.size + 1) [.int .i64 0, .int .i64 0, .int .i64 0] w' ∧ Arr w9.heap.size [.int .i64 r11.1, .int .i64 r14.1, .int .i64 0] w') ⟨(K14.new _ _ (by omega) _), (f14.new w9.heap.size 1 (by omega) (.int .i64 r14.1)), (B0_14.new w9.heap.size 1 (by omega) (.int .i64 r14.1)), (B1_14.new w9.heap.size 1 (by omega) (.int .i64 r14.1)), (B2_14.put 1 (of_decide_eq_true rfl) (.int .i64 r14.1) [.int .i64 r11.1, .int .i64 r14.1, .int .i64 0] rfl)⟩ ?_
      rintro w15 ⟨K15, BF_15, B0_15, B1_15, B2_15⟩
      have z15 := B2_15.lies
      clear K14 f14 B0_14 B1_14 B2_14
      rw [rounds_succ]
      have c23_B0_2 : w15.cell? ⟨w.heap.size, 2, none⟩ = some (.int .i64 (-q.2.2.1)) := B0_15.c 2 (of_decide_eq_true rfl)
      go_wp2_with fail
      refine (rMul_any b r14.2 (-q.2.2.1) 4398046511104 _ BF_15).mono ?_
      rintro e w16 ⟨rfl, f16, k16⟩
      generalize e16 : mulS r14.2 (-q.2.2.1) 4398046511104 = r16 at f16 ⊢
      have E16 : Hid _ := e16
      clear e16
      have K16 : Kept b w w16 := Kept.trans K15 k16
      have B0_16 : Arr w.heap.size [.int .i64 (-q.1), .int .i64 (-q.2.1), .int .i64 (-q.2.2.1), .int .i64 (-q.2.2.2)] w16 := B0_15.kept k16 (by omega)
      have B1_16 : Arr (w.heap.size + 1) [.int .i64 0, .int .i64 0, .int .i64 0] w16 := B1_15.kept k16 (by omega)
      have B2_16 : Arr w9.heap.size [.int .i64 r11.1, .int .i64 r14.1, .int .i64 0] w16 := B2_15.kept k16 (by omega)
      have z16 := B2_16.lies
      clear c23_B0_2 K15 BF_15 B0_15 B1_15 B2_15 k16
      go_wp2_with fail
      refine (rDiv_any b r16.2 r16.1 r9.1 _ f16).mono ?_
      rintro e w17 ⟨rfl, f17, k17⟩
      generalize e17 : divS r16.2 r16.1 r9.1 = r17 at f17 ⊢
      have E17 : Hid _ := e17
      clear e17
      have K17 : Kept b w w17 := Kept.trans K16 k17
      have B0_17 : Arr w.heap.size [.int .i64 (-q.1), .int .i64 (-q.2.1), .int .i64 (-q.2.2.1), .int .i64 (-q.2.2.2)] w17 := B0_16.kept k17 (by omega)
      have B1_17 : Arr (w.heap.size + 1) [.int .i64 0, .int .i64 0, .int .i64 0] w17 := B1_16.kept k17 (by omega)
      have B2_17 : Arr w9.heap.size [.int .i64 r11.1, .int .i64 r14.1, .int .i64 0] w17 := B2_16.kept k17 (by omega)
      have z17 := B2_17.lies
      clear K16 f16 B0_16 B1_16 B2_16 k17
      have c25_B2_2 : w17.cell? ⟨w9.heap.size, 2, none⟩ = some (.int .i64 0) := B2_17.c 2 (of_decide_eq_true rfl)
      have g25_B2_2 := B2_17.f 2 (of_decide_eq_true rfl)
      go_wp2_with fail
      clear c25_B2_2 g25_B2_2
      refine rounds_letter (S := fun w' => Kept b w w' ∧ Fl b r17.2 w' ∧ Arr w.heap.size [.int .i64 (-q.1), .int .i64 (-q.2.1), .int .i64 (-q.2.2.1), .int .i64 (-q.2.2.2)] w' ∧ Arr (w.heap.size + 1) [.int .i64 0, .int .i64 0, .int .i64 0] w' ∧ Arr w9.heap.size [.int .i64 r11.1, .int .i64 r14.1, .int .i64 r17.1] w') ⟨(K17.new _ _ (by omega) _), (f17.new w9.heap.size 2 (by omega) (.int .i64 r17.1)), (B0_17.new w9.heap.size 2 (by omega) (.int .i64 r17.1)), (B1_17.new w9.heap.size 2 (by omega) (.int .i64 r17.1)), (B2_17.put 2 (of_decide_eq_true rfl) (.int .i64 r17.1) [.int .i64 r11.1, .int .i64 r14.1, .int .i64 r17.1] rfl)⟩ ?_
      rintro w18 ⟨K18, BF_18, B0_18, B1_18, B2_18⟩
      have z18 := B2_18.lies
      clear K17 f17 B0_17 B1_17 B2_17
      rw [rounds_succ]
      rcases Bool.eq_false_or_eq_true r17.2 with hc3 | hc3
      · have Hhc3 : Hid (r17.2 = true) := hc3
        have c26_B1_0 : w18.cell? ⟨w.heap.size + 1, 0, none⟩ = some (.int .i64 0) := B1_18.c 0 (of_decide_eq_true rfl)
        have c26_B1_1 : w18.cell? ⟨w.heap.size + 1, 1, none⟩ = some (.int .i64 0) := B1_18.c 1 (of_decide_eq_true rfl)
        have c26_B1_2 : w18.cell? ⟨w.heap.size + 1, 2, none⟩ = some (.int .i64 0) := B1_18.c 2 (of_decide_eq_true rfl)
        have c26_BF := BF_18.cell
        have g26_B1_0 := B1_18.f 0 (of_decide_eq_true rfl)
        have g26_B1_1 := B1_18.f 1 (of_decide_eq_true rfl)
        have g26_B1_2 := B1_18.f 2 (of_decide_eq_true rfl)
        go_wp2
        clear c26_B1_0 c26_B1_1 c26_B1_2 c26_BF g26_B1_0 g26_B1_1 g26_B1_2
        have d0 := Arr.c (B1_18.put 0 (of_decide_eq_true rfl) (.int .i64 0) [.int .i64 0, .int .i64 0, .int .i64 0] rfl) 0 (of_decide_eq_true rfl)
        have d1 := Arr.c ((B1_18.put 0 (of_decide_eq_true rfl) (.int .i64 0) [.int .i64 0, .int .i64 0, .int .i64 0] rfl).put 1 (of_decide_eq_true rfl) (.int .i64 0) [.int .i64 0, .int .i64 0, .int .i64 0] rfl) 1 (of_decide_eq_true rfl)
        have d2 := Arr.c (((B1_18.put 0 (of_decide_eq_true rfl) (.int .i64 0) [.int .i64 0, .int .i64 0, .int .i64 0] rfl).put 1 (of_decide_eq_true rfl) (.int .i64 0) [.int .i64 0, .int .i64 0, .int .i64 0] rfl).put 2 (of_decide_eq_true rfl) (.int .i64 0) [.int .i64 0, .int .i64 0, .int .i64 0] rfl) 2 (of_decide_eq_true rfl)
        refine bodyPost_ret (v := .agg #[.int .i64 0, .int .i64 0, .int .i64 0]) (by simp [results, Try.results21, go_sem, d0, d1, d2]) rfl ?_
        have hs : xToRodS bad q = ((0, 0, 0), r17.2) := by unfold xToRodS; simp only [E1.out, E2.out, E3.out, E4.out, E9.out, E10.out, E11.out, E13.out, E14.out, E16.out, E17.out]; rw [if_neg (by rw [Hhc1.out]; decide)]; rw [if_pos (by have := Hhc2.out; omega)]; rw [if_pos Hhc3.out]
        rw [hs]
        exact ⟨rfl, (((BF_18.new (w.heap.size + 1) 0 (by omega) (.int .i64 0)).new (w.heap.size + 1) 1 (by omega) (.int .i64 0)).new (w.heap.size + 1) 2 (by omega) (.int .i64 0)), (((K18.new _ _ (by omega) _).new _ _ (by omega) _).new _ _ (by omega) _)⟩
      · have Hhc3 : Hid (r17.2 = false) := hc3
        have c26_B1_0 : w18.cell? ⟨w.heap.size + 1, 0, none⟩ = some (.int .i64 0) := B1_18.c 0 (of_decide_eq_true rfl)
        have c26_B1_1 : w18.cell? ⟨w.heap.size + 1, 1, none⟩ = some (.int .i64 0) := B1_18.c 1 (of_decide_eq_true rfl)
        have c26_B1_2 : w18.cell? ⟨w.heap.size + 1, 2, none⟩ = some (.int .i64 0) := B1_18.c 2 (of_decide_eq_true rfl)
        have c26_B2_0 : w18.cell? ⟨w9.heap.size, 0, none⟩ = some (.int .i64 r11.1) := B2_18.c 0 (of_decide_eq_true rfl)
        have c26_B2_1 : w18.cell? ⟨w9.heap.size, 1, none⟩ = some (.int .i64 r14.1) := B2_18.c 1 (of_decide_eq_true rfl)
        have c26_B2_2 : w18.cell? ⟨w9.heap.size, 2, none⟩ = some (.int .i64 r17.1) := B2_18.c 2 (of_decide_eq_true rfl)
        have c26_BF := BF_18.cell
        have g26_B1_0 := B1_18.f 0 (of_decide_eq_true rfl)
        have g26_B1_1 := B1_18.f 1 (of_decide_eq_true rfl)
        have g26_B1_2 := B1_18.f 2 (of_decide_eq_true rfl)
        go_wp2
        clear c26_B1_0 c26_B1_1 c26_B1_2 c26_B2_0 c26_B2_1 c26_B2_2 c26_BF g26_B1_0 g26_B1_1 g26_B1_2
        have d0 := Arr.c (B1_18.put 0 (of_decide_eq_true rfl) (.int .i64 r11.1) [.int .i64 r11.1, .int .i64 0, .int .i64 0] rfl) 0 (of_decide_eq_true rfl)
        have d1 := Arr.c ((B1_18.put 0 (of_decide_eq_true rfl) (.int .i64 r11.1) [.int .i64 r11.1, .int .i64 0, .int .i64 0] rfl).put 1 (of_decide_eq_true rfl) (.int .i64 r14.1) [.int .i64 r11.1, .int .i64 r14.1, .int .i64 0] rfl) 1 (of_decide_eq_true rfl)
        have d2 := Arr.c (((B1_18.put 0 (of_decide_eq_true rfl) (.int .i64 r11.1) [.int .i64 r11.1, .int .i64 0, .int .i64 0] rfl).put 1 (of_decide_eq_true rfl) (.int .i64 r14.1) [.int .i64 r11.1, .int .i64 r14.1, .int .i64 0] rfl).put 2 (of_decide_eq_true rfl) (.int .i64 r17.1) [.int .i64 r11.1, .int .i64 r14.1, .int .i64 r17.1] rfl) 2 (of_decide_eq_true rfl)
        refine bodyPost_ret (v := .agg #[.int .i64 r11.1, .int .i64 r14.1, .int .i64 r17.1]) (by simp [results, Try.results21, go_sem, d0, d1, d2]) rfl ?_
        have hs : xToRodS bad q = ((r11.1, r14.1, r17.1), r17.2) := by unfold xToRodS; simp only [E1.out, E2.out, E3.out, E4.out, E9.out, E10.out, E11.out, E13.out, E14.out, E16.out, E17.out]; rw [if_neg (by rw [Hhc1.out]; decide)]; rw [if_pos (by have := Hhc2.out; omega)]; rw [if_neg (by rw [Hhc3.out]; decide)]
        rw [hs]
        exact ⟨rfl, (((BF_18.new (w.heap.size + 1) 0 (by omega) (.int .i64 r11.1)).new (w.heap.size + 1) 1 (by omega) (.int .i64 r14.1)).new (w.heap.size + 1) 2 (by omega) (.int .i64 r17.1)), (((K18.new _ _ (by omega) _).new _ _ (by omega) _).new _ _ (by omega) _)⟩
    · have Hhc2 : Hid (¬ q.2.2.2 < 0) := hc2
      have c10_B0_3 : w4.cell? ⟨w.heap.size, 3, none⟩ = some (.int .i64 q.2.2.2) := B0_4.c 3 (of_decide_eq_true rfl)
      have c10_BF := f4.cell
      go_wp2_with fail
      refine (rAdd_any b r4.2 1099511627776 q.2.2.2 _ f4).mono ?_
      rintro e w5 ⟨rfl, f5, k5⟩
      generalize e5 : addS r4.2 1099511627776 q.2.2.2 = r5 at f5 ⊢
      have E5 : Hid _ := e5
      clear e5
      have K5 : Kept b w w5 := Kept.trans K4 k5
      have B0_5 : Arr w.heap.size [.int .i64 q.1, .int .i64 q.2.1, .int .i64 q.2.2.1, .int .i64 q.2.2.2] w5 := B0_4.kept k5 (by omega)
      have B1_5 : Arr (w.heap.size + 1) [.int .i64 0, .int .i64 0, .int .i64 0] w5 := B1_4.kept k5 (by omega)
      have z5 := B1_5.lies
      clear c10_B0_3 c10_BF K4 f4 B0_4 B1_4 k5
      go_wp2_with fail
      refine wp_loop_rounds 4 ?_
      rw [rounds_succ]
      have c12_B0_0 : w5.cell? ⟨w.heap.size, 0, none⟩ = some (.int .i64 q.1) := B0_5.c 0 (of_decide_eq_true rfl)
      have l12_B0 := B0_5.lies
      go_wp2_with fail
      refine (rMul_any b r5.2 q.1 4398046511104 _ (f5.alloc _)).mono ?_
      rintro e w6 ⟨rfl, f6, k6⟩
      generalize e6 : mulS r5.2 q.1 4398046511104 = r6 at f6 ⊢
      have E6 : Hid _ := e6
      clear e6
      have K6 : Kept b w w6 := Kept.trans (K5.al _) k6
      have B0_6 : Arr w.heap.size [.int .i64 q.1, .int .i64 q.2.1, .int .i64 q.2.2.1, .int .i64 q.2.2.2] w6 := (B0_5.alloc _).kept k6 (by omega)
      have B1_6 : Arr (w.heap.size + 1) [.int .i64 0, .int .i64 0, .int .i64 0] w6 := (B1_5.alloc _).kept k6 (by omega)
      have B2_6 : Arr w5.heap.size [.int .i64 0, .int .i64 0, .int .i64 0] w6 := (Arr_at _ _ [.int .i64 0, .int .i64 0, .int .i64 0] _ (by simp)).kept k6 (by omega)
      have z6 := B2_6.lies
      clear c12_B0_0 l12_B0 K5 f5 B0_5 B1_5 k6
      go_wp2_with fail
      refine (rDiv_any b r6.2 r6.1 r5.1 _ f6).mono ?_
      rintro e w7 ⟨rfl, f7, k7⟩
      generalize e7 : divS r6.2 r6.1 r5.1 = r7 at f7 ⊢
      have E7 : Hid _ := e7
      clear e7
      have K7 : Kept b w w7 := Kept.trans K6 k7
      have B0_7 : Arr w.heap.size [.int .i64 q.1, .int .i64 q.2.1, .int .i64 q.2.2.1, .int .i64 q.2.2.2] w7 := B0_6.kept k7 (by omega)
      have B1_7 : Arr (w.heap.size + 1) [.int .i64 0, .int .i64 0, .int .i64 0] w7 := B1_6.kept k7 (by omega)
      have B2_7 : Arr w5.heap.size [.int .i64 0, .int .i64 0, .int .i64 0] w7 := B2_6.kept k7 (by omega)
      have z7 := B2_7.lies
      clear K6 f6 B0_6 B1_6 B2_6 k7
      have c14_B2_0 : w7.cell? ⟨w5.heap.size, 0, none⟩ = some (.int .i64 0) := B2_7.c 0 (of_decide_eq_true rfl)
      have g14_B2_0 := B2_7.f 0 (of_decide_eq_true rfl)
      go_wp2_with fail
      clear c14_B2_0 g14_B2_0
      refine rounds_letter (S := fun w' => Kept b w w' ∧ Fl b r7.2 w' ∧ Arr w.heap.size [.int .i64 q.1, .int .i64 q.2.1, .int .i64 q.2.2.1, .int .i64 q.2.2.2] w' ∧ Arr (w.heap.size + 1) [.int .i64 0, .int .i64 0, .int .i64 0] w' ∧ Arr w5.heap.size [.int .i64 r7.1, .int .i64 0, .int .i64 0] w') ⟨(K7.new _ _ (by omega) _), (f7.new w5.heap.size 0 (by omega) (.int .i64 r7.1)), (B0_7.new w5.heap.size 0 (by omega) (.int .i64 r7.1)), (B1_7.new w5.heap.size 0 (by omega) (.int .i64 r7.1)), (B2_7.put 0 (of_decide_eq_true rfl) (.int .i64 r7.1) [.int .i64 r7.1, .int .i64 0, .int .i64 0] rfl)⟩ ?_
      rintro w8 ⟨K8, BF_8, B0_8, B1_8, B2_8⟩
      have z8 := B2_8.lies
      clear K7 f7 B0_7 B1_7 B2_7
      rw [rounds_succ]
      have c15_B0_1 : w8.cell? ⟨w.heap.size, 1, none⟩ = some (.int .i64 q.2.1) := B0_8.c 1 (of_decide_eq_true rfl)
      go_wp2_with fail
      refine (rMul_any b r7.2 q.2.1 4398046511104 _ BF_8).mono ?_
      rintro e w9 ⟨rfl, f9, k9⟩
      generalize e9 : mulS r7.2 q.2.1 4398046511104 = r9 at f9 ⊢
      have E9 : Hid _ := e9
      clear e9
      have K9 : Kept b w w9 := Kept.trans K8 k9
      have B0_9 : Arr w.heap.size [.int .i64 q.1, .int .i64 q.2.1, .int .i64 q.2.2.1, .int .i64 q.2.2.2] w9 := B0_8.kept k9 (by omega)
      have B1_9 : Arr (w.heap.size + 1) [.int .i64 0, .int .i64 0, .int .i64 0] w9 := B1_8.kept k9 (by omega)
      have B2_9 : Arr w5.heap.size [.int .i64 r7.1, .int .i64 0, .int .i64 0] w9 := B2_8.kept k9 (by omega)
      have z9 := B2_9.lies
      clear c15_B0_1 K8 BF_8 B0_8 B1_8 B2_8 k9
      go_wp2_with fail
      refine (rDiv_any b r9.2 r9.1 r5.1 _ f9).mono ?_
      rintro e w10 ⟨rfl, f10, k10⟩
      generalize e10 : divS r9.2 r9.1 r5.1 = r10 at f10 ⊢
      have E10 : Hid _ := e10
      clear e10
      have K10 : Kept b w w10 := Kept.trans K9 k10
      have B0_10 : Arr w.heap.size [.int .i64 q.1, .int .i64 q.2.1, .int .i64 q.2.2.1, .int .i64 q.2.2.2] w10 := B0_9.kept k10 (by omega)
      have B1_10 : Arr (w.heap.size + 1) [.int .i64 0, .int .i64 0, .int .i64 0] w10 := B1_9.kept k10 (by omega)
      have B2_10 : Arr w5.heap.size [.int .i64 r7.1, .int .i64 0, .int .i64 0] w10 := B2_9.kept k10 (by omega)
      have z10 := B2_10.lies
      clear K9 f9 B0_9 B1_9 B2_9 k10
      have c17_B2_1 : w10.cell? ⟨w5.heap.size, 1, none⟩ = some (.int .i64 0) := B2_10.c 1 (of_decide_eq_true rfl)
      have g17_B2_1 := B2_10.f 1 (of_decide_eq_true rfl)
      go_wp2_with fail
      clear c17_B2_1 g17_B2_1
      refine rounds_letter (S := fun w' => Kept b w w' ∧ Fl b r10.2 w' ∧ Arr w.heap.size [.int .i64 q.1, .int .i64 q.2.1, .int .i64 q.2.2.1, .int .i64 q.2.2.2] w' ∧ Arr (w.heap.size + 1) [.int .i64 0, .int .i64 0, .int .i64 0] w' ∧ Arr w5.heap.size [.int .i64 r7.1, .int .i64 r10.1, .int .i64 0] w') ⟨(K10.new _ _ (by omega) _), (f10.new w5.heap.size 1 (by omega) (.int .i64 r10.1)), (B0_10.new w5.heap.size 1 (by omega) (.int .i64 r10.1)), (B1_10.new w5.heap.size 1 (by omega) (.int .i64 r10.1)), (B2_10.put 1 (of_decide_eq_true rfl) (.int .i64 r10.1) [.int .i64 r7.1, .int .i64 r10.1, .int .i64 0] rfl)⟩ ?_
      rintro w11 ⟨K11, BF_11, B0_11, B1_11, B2_11⟩
      have z11 := B2_11.lies
      clear K10 f10 B0_10 B1_10 B2_10
      rw [rounds_succ]
      have c18_B0_2 : w11.cell? ⟨w.heap.size, 2, none⟩ = some (.int .i64 q.2.2.1) := B0_11.c 2 (of_decide_eq_true rfl)
      go_wp2_with fail
      refine (rMul_any b r10.2 q.2.2.1 4398046511104 _ BF_11).mono ?_
      rintro e w12 ⟨rfl, f12, k12⟩
      generalize e12 : mulS r10.2 q.2.2.1 4398046511104 = r12 at f12 ⊢
      have E12 : Hid _ := e12
      clear e12
      have K12 : Kept b w w12 := Kept.trans K11 k12
      have B0_12 : Arr w.heap.size [.int .i64 q.1, .int .i64 q.2.1, .int .i64 q.2.2.1, .int .i64 q.2.2.2] w12 := B0_11.kept k12 (by omega)
      have B1_12 : Arr (w.heap.size + 1) [.int .i64 0, .int .i64 0, .int .i64 0] w12 := B1_11.kept k12 (by omega)
      have B2_12 : Arr w5.heap.size [.int .i64 r7.1, .int .i64 r10.1, .int .i64 0] w12 := B2_11.kept k12 (by omega)
      have z12 := B2_12.lies
      clear c18_B0_2 K11 BF_11 B0_11 B1_11 B2_11 k12
      go_wp2_with fail
      refine (rDiv_any b r12.2 r12.1 r5.1 _ f12).mono ?_
      rintro e w13 ⟨rfl, f13, k13⟩
      generalize e13 : divS r12.2 r12.1 r5.1 = r13 at f13 ⊢
      have E13 : Hid _ := e13
      clear e13
      have K13 : Kept b w w13 := Kept.trans K12 k13
      have B0_13 : Arr w.heap.size [.int .i64 q.1, .int .i64 q.2.1, .int .i64 q.2.2.1, .int .i64 q.2.2.2] w13 := B0_12.kept k13 (by omega)
      have B1_13 : Arr (w.heap.size + 1) [.int .i64 0, .int .i64 0, .int .i64 0] w13 := B1_12.kept k13 (by omega)
      have B2_13 : Arr w5.heap.size [.int .i64 r7.1, .int .i64 r10.1, .int .i64 0] w13 := B2_12.kept k13 (by omega)
      have z13 := B2_13.lies
      clear K12 f12 B0_12 B1_12 B2_12 k13
      have c20_B2_2 : w13.cell? ⟨w5.heap.size, 2, none⟩ = some (.int .i64 0) := B2_13.c 2 (of_decide_eq_true rfl)
      have g20_B2_2 := B2_13.f 2 (of_decide_eq_true rfl)
      go_wp2_with fail
      clear c20_B2_2 g20_B2_2
      refine rounds_letter (S := fun w' => Kept b w w' ∧ Fl b r13.2 w' ∧ Arr w.heap.size [.int .i64 q.1, .int .i64 q.2.1, .int .i64 q.2.2.1, .int .i64 q.2.2.2] w' ∧ Arr (w.heap.size + 1) [.int .i64 0, .int .i64 0, .int .i64 0] w' ∧ Arr w5.heap.size [.int .i64 r7.1, .int .i64 r10.1, .int .i64 r13.1] w') ⟨(K13.new _ _ (by omega) _), (f13.new w5.heap.size 2 (by omega) (.int .i64 r13.1)), (B0_13.new w5.heap.size 2 (by omega) (.int .i64 r13.1)), (B1_13.new w5.heap.size 2 (by omega) (.int .i64 r13.1)), (B2_13.put 2 (of_decide_eq_true rfl) (.int .i64 r13.1) [.int .i64 r7.1, .int .i64 r10.1, .int .i64 r13.1] rfl)⟩ ?_
      rintro w14 ⟨K14, BF_14, B0_14, B1_14, B2_14⟩
      have z14 := B2_14.lies
      clear K13 f13 B0_13 B1_13 B2_13
      rw [rounds_succ]
      rcases Bool.eq_false_or_eq_true r13.2 with hc3 | hc3
      · have Hhc3 : Hid (r13.2 = true) := hc3
        have c21_B1_0 : w14.cell? ⟨w.heap.size + 1, 0, none⟩ = some (.int .i64 0) := B1_14.c 0 (of_decide_eq_true rfl)
        have c21_B1_1 : w14.cell? ⟨w.heap.size + 1, 1, none⟩ = some (.int .i64 0) := B1_14.c 1 (of_decide_eq_true rfl)
        have c21_B1_2 : w14.cell? ⟨w.heap.size + 1, 2, none⟩ = some (.int .i64 0) := B1_14.c 2 (of_decide_eq_true rfl)
        have c21_BF := BF_14.cell
        have g21_B1_0 := B1_14.f 0 (of_decide_eq_true rfl)
        have g21_B1_1 := B1_14.f 1 (of_decide_eq_true rfl)
        have g21_B1_2 := B1_14.f 2 (of_decide_eq_true rfl)
        go_wp2
        clear c21_B1_0 c21_B1_1 c21_B1_2 c21_BF g21_B1_0 g21_B1_1 g21_B1_2
        have d0 := Arr.c (B1_14.put 0 (of_decide_eq_true rfl) (.int .i64 0) [.int .i64 0, .int .i64 0, .int .i64 0] rfl) 0 (of_decide_eq_true rfl)
        have d1 := Arr.c ((B1_14.put 0 (of_decide_eq_true rfl) (.int .i64 0) [.int .i64 0, .int .i64 0, .int .i64 0] rfl).put 1 (of_decide_eq_true rfl) (.int .i64 0) [.int .i64 0, .int .i64 0, .int .i64 0] rfl) 1 (of_decide_eq_true rfl)
        have d2 := Arr.c (((B1_14.put 0 (of_decide_eq_true rfl) (.int .i64 0) [.int .i64 0, .int .i64 0, .int .i64 0] rfl).put 1 (of_decide_eq_true rfl) (.int .i64 0) [.int .i64 0, .int .i64 0, .int .i64 0] rfl).put 2 (of_decide_eq_true rfl) (.int .i64 0) [.int .i64 0, .int .i64 0, .int .i64 0] rfl) 2 (of_decide_eq_true rfl)
        refine bodyPost_ret (v := .agg #[.int .i64 0, .int .i64 0, .int .i64 0]) (by simp [results, Try.results21, go_sem, d0, d1, d2]) rfl ?_
        have hs : xToRodS bad q = ((0, 0, 0), r13.2) := by unfold xToRodS; simp only [E1.out, E2.out, E3.out, E4.out, E5.out, E6.out, E7.out, E9.out, E10.out, E12.out, E13.out]; rw [if_neg (by rw [Hhc1.out]; decide)]; rw [if_neg (by have := Hhc2.out; omega)]; rw [if_pos Hhc3.out]
        rw [hs]
        exact ⟨rfl, (((BF_14.new (w.heap.size + 1) 0 (by omega) (.int .i64 0)).new (w.heap.size + 1) 1 (by omega) (.int .i64 0)).new (w.heap.size + 1) 2 (by omega) (.int .i64 0)), (((K14.new _ _ (by omega) _).new _ _ (by omega) _).new _ _ (by omega) _)⟩
      · have Hhc3 : Hid (r13.2 = false) := hc3
        have c21_B1_0 : w14.cell? ⟨w.heap.size + 1, 0, none⟩ = some (.int .i64 0) := B1_14.c 0 (of_decide_eq_true rfl)
        have c21_B1_1 : w14.cell? ⟨w.heap.size + 1, 1, none⟩ = some (.int .i64 0) := B1_14.c 1 (of_decide_eq_true rfl)
        have c21_B1_2 : w14.cell? ⟨w.heap.size + 1, 2, none⟩ = some (.int .i64 0) := B1_14.c 2 (of_decide_eq_true rfl)
        have c21_B2_0 : w14.cell? ⟨w5.heap.size, 0, none⟩ = some (.int .i64 r7.1) := B2_14.c 0 (of_decide_eq_true rfl)
        have c21_B2_1 : w14.cell? ⟨w5.heap.size, 1, none⟩ = some (.int .i64 r10.1) := B2_14.c 1 (of_decide_eq_true rfl)
        have c21_B2_2 : w14.cell? ⟨w5.heap.size, 2, none⟩ = some (.int .i64 r13.1) := B2_14.c 2 (of_decide_eq_true rfl)
        have c21_BF := BF_14.cell
        have g21_B1_0 := B1_14.f 0 (of_decide_eq_true rfl)
        have g21_B1_1 := B1_14.f 1 (of_decide_eq_true rfl)
        have g21_B1_2 := B1_14.f 2 (of_decide_eq_true rfl)
        go_wp2
        clear c21_B1_0 c21_B1_1 c21_B1_2 c21_B2_0 c21_B2_1 c21_B2_2 c21_BF g21_B1_0 g21_B1_1 g21_B1_2
        have d0 := Arr.c (B1_14.put 0 (of_decide_eq_true rfl) (.int .i64 r7.1) [.int .i64 r7.1, .int .i64 0, .int .i64 0] rfl) 0 (of_decide_eq_true rfl)
        have d1 := Arr.c ((B1_14.put 0 (of_decide_eq_true rfl) (.int .i64 r7.1) [.int .i64 r7.1, .int .i64 0, .int .i64 0] rfl).put 1 (of_decide_eq_true rfl) (.int .i64 r10.1) [.int .i64 r7.1, .int .i64 r10.1, .int .i64 0] rfl) 1 (of_decide_eq_true rfl)
        have d2 := Arr.c (((B1_14.put 0 (of_decide_eq_true rfl) (.int .i64 r7.1) [.int .i64 r7.1, .int .i64 0, .int .i64 0] rfl).put 1 (of_decide_eq_true rfl) (.int .i64 r10.1) [.int .i64 r7.1, .int .i64 r10.1, .int .i64 0] rfl).put 2 (of_decide_eq_true rfl) (.int .i64 r13.1) [.int .i64 r7.1, .int .i64 r10.1, .int .i64 r13.1] rfl) 2 (of_decide_eq_true rfl)
        refine bodyPost_ret (v := .agg #[.int .i64 r7.1, .int .i64 r10.1, .int .i64 r13.1]) (by simp [results, Try.results21, go_sem, d0, d1, d2]) rfl ?_
        have hs : xToRodS bad q = ((r7.1, r10.1, r13.1), r13.2) := by unfold xToRodS; simp only [E1.out, E2.out, E3.out, E4.out, E5.out, E6.out, E7.out, E9.out, E10.out, E12.out, E13.out]; rw [if_neg (by rw [Hhc1.out]; decide)]; rw [if_neg (by have := Hhc2.out; omega)]; rw [if_neg (by rw [Hhc3.out]; decide)]
        rw [hs]
        exact ⟨rfl, (((BF_14.new (w.heap.size + 1) 0 (by omega) (.int .i64 r7.1)).new (w.heap.size + 1) 1 (by omega) (.int .i64 r10.1)).new (w.heap.size + 1) 2 (by omega) (.int .i64 r13.1)), (((K14.new _ _ (by omega) _).new _ _ (by omega) _).new _ _ (by omega) _)⟩
end Go.Proofs.Yteooceapkkdcpaa
