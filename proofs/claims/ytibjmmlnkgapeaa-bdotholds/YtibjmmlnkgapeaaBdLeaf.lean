/-
  The walks of goesOn, part and leaned of bdot, for the seat Ytibjmmlnkgapeaa. (Made by mkbdot.py.)
-/
import Derived.Test.YtibjmmlnkgapeaaBdSpec
import Derived.Test.YtibjmmlnkgapeaaVCode
import Derived.Test.YtibjmmlnkgapeaaVFold
import Derived.Test.YtibjmmlnkgapeaaStop
import Derived.Handy
import Derived.Deep.RegionHeld3
namespace Go.Proofs.Ytibjmmlnkgapeaa
open Go.RowKit

theorem u64_sub {n t : Int} : IntKind.u64.wrap (IntKind.u64.wrap n - IntKind.u64.wrap t) = (n - t) % 18446744073709551616 := by
  rw [IntKind.wrap_u64, IntKind.wrap_u64, IntKind.wrap_u64]
  omega
set_option maxHeartbeats 1000000 in
set_option maxRecDepth 100000 in
theorem goes_any (d : Dr) (k : Int) (w : World) (hd : -9223372036854775808 ≤ d.2.1 ∧ d.2.1 ≤ 9223372036854775807) (ht : -9223372036854775808 ≤ k ∧ k ≤ 9223372036854775807) :
    Calls Try.prog 12 #[.agg #[.bool d.1, .int .i64 d.2.1, .int .i64 d.2.2.1, .int .i64 d.2.2.2.1, .int .i64 d.2.2.2.2.1, .int .i64 d.2.2.2.2.2.1, .int .i64 d.2.2.2.2.2.2.1, .int .i64 d.2.2.2.2.2.2.2], .int .i64 k] w fun e w' => e = .returned (.bool (goesS d k)) ∧ Below w.heap.size w w' := by
  obtain ⟨o, T, l0, l1, l2, r0, r1, r2⟩ := d
  dsimp only at hd ⊢
  cases o
  · have e : goesS (false, T, l0, l1, l2, r0, r1, r2) k = false := rfl
    rw [e]
    clear e
    go_enter Try.func12, Try.ntmps12
    go_wp2
    go_ret
    exact ⟨rfl, (Below.refl _ w).alloc (Nat.le_refl _) _⟩
  by_cases c : k < T
  · have e : goesS (true, T, l0, l1, l2, r0, r1, r2) k = false := by unfold goesS; simp; omega
    rw [e]
    clear e
    go_enter Try.func12, Try.ntmps12
    go_wp2
    go_ret
    exact ⟨rfl, (Below.refl _ w).alloc (Nat.le_refl _) _⟩
  have hw := @u64_sub k T
  rw [show (k - T) % 18446744073709551616 = k - T by omega] at hw
  by_cases c1 : 10 ≤ k - T
  · by_cases c2 : k - T ≤ 10000
    · have e : goesS (true, T, l0, l1, l2, r0, r1, r2) k = true := by unfold goesS; simp; omega
      rw [e]
      clear e
      go_enter Try.func12, Try.ntmps12
      go_wp2
      go_ret
      exact ⟨rfl, (Below.refl _ w).alloc (Nat.le_refl _) _⟩
    · have e : goesS (true, T, l0, l1, l2, r0, r1, r2) k = false := by unfold goesS; simp; omega
      rw [e]
      clear e
      go_enter Try.func12, Try.ntmps12
      go_wp2
      go_ret
      exact ⟨rfl, (Below.refl _ w).alloc (Nat.le_refl _) _⟩
  · have e : goesS (true, T, l0, l1, l2, r0, r1, r2) k = false := by unfold goesS; simp; omega
    rw [e]
    clear e
    go_enter Try.func12, Try.ntmps12
    go_wp2
    go_ret
    exact ⟨rfl, (Below.refl _ w).alloc (Nat.le_refl _) _⟩
set_option maxRecDepth 100000 in
set_option maxHeartbeats 2000000 in
theorem bpart_any (b : Nat) (bad : Bool) (a : V3) (p : Int) (q : Int) (w : World) (hw : Fl b bad w) :
    Calls Try.prog 20 #[.pointer (some ⟨b, 0, none⟩), .agg #[.int .i64 a.1, .int .i64 a.2.1, .int .i64 a.2.2], .int .i64 p, .int .i64 q] w fun e w' => e = .returned (.agg #[.int .i64 ((bpartS bad a p q).1.1), .int .i64 ((bpartS bad a p q).1.2.1), .int .i64 ((bpartS bad a p q).1.2.2)]) ∧ Fl b (bpartS bad a p q).2 w' ∧ Kept b w w' := by
  have hl := hw.lies
  go_enter Try.func20, Try.ntmps20
  have y1_BF : b < w.heap.size := hw.lies
  have y2_BF : b < w.heap.size + 1 := (Nat.lt_succ_of_lt hw.lies)
  have y2_B0 : w.heap.size < w.heap.size + 1 := (Nat.lt_succ_self _)
  go_wp2_with fail
  refine wp_loop_rounds 4 ?_
  rw [rounds_succ]
  go_wp2_with fail
  refine (Part_any b bad a.1 p q _ ((hw.alloc _).alloc _)).mono ?_
  rintro e w1 ⟨rfl, f1, k1⟩
  generalize e1 : partS bad a.1 p q = r1 at f1 ⊢
  have E1 : Hid _ := e1
  clear e1
  have K1 : Kept b w w1 := Kept.trans (((Kept.refl b w).al _).al _) k1
  have B0_1 : Arr w.heap.size [.int .i64 a.1, .int .i64 a.2.1, .int .i64 a.2.2] w1 := ((Arr_at _ _ [.int .i64 a.1, .int .i64 a.2.1, .int .i64 a.2.2] _ (by simp)).alloc _).kept k1 (Nat.ne_of_gt y1_BF)
  have B1_1 : Arr (w.heap.size + 1) [.int .i64 0, .int .i64 0, .int .i64 0] w1 := (Arr_at _ _ [.int .i64 0, .int .i64 0, .int .i64 0] _ (by simp)).kept k1 (Nat.ne_of_gt y2_BF)
  have z1 := B1_1.lies
  clear k1
  have c3_B0_0 : w1.cell? ⟨w.heap.size, 0, none⟩ = some (.int .i64 a.1) := B0_1.c 0 (of_decide_eq_true rfl)
  have g3_B0_0 := B0_1.f 0 (of_decide_eq_true rfl)
  go_wp2_with fail
  clear c3_B0_0 g3_B0_0
  refine rounds_letter (S := fun w' => Kept b w w' ∧ Fl b r1.2 w' ∧ Arr w.heap.size [.int .i64 r1.1, .int .i64 a.2.1, .int .i64 a.2.2] w' ∧ Arr (w.heap.size + 1) [.int .i64 0, .int .i64 0, .int .i64 0] w') ⟨(K1.new _ _ (by omega) _), (f1.new w.heap.size 0 (Nat.ne_of_lt y1_BF) (.int .i64 r1.1)), (B0_1.put 0 (of_decide_eq_true rfl) (.int .i64 r1.1) [.int .i64 r1.1, .int .i64 a.2.1, .int .i64 a.2.2] rfl), (B1_1.new w.heap.size 0 (Nat.ne_of_gt y2_B0) (.int .i64 r1.1))⟩ ?_
  rintro w2 ⟨K2, BF_2, B0_2, B1_2⟩
  have z2 := B1_2.lies
  clear K1 f1 B0_1 B1_1
  rw [rounds_succ]
  have c4_B0_1 : w2.cell? ⟨w.heap.size, 1, none⟩ = some (.int .i64 a.2.1) := B0_2.c 1 (of_decide_eq_true rfl)
  go_wp2_with fail
  refine (Part_any b r1.2 a.2.1 p q _ BF_2).mono ?_
  rintro e w3 ⟨rfl, f3, k3⟩
  generalize e3 : partS r1.2 a.2.1 p q = r3 at f3 ⊢
  have E3 : Hid _ := e3
  clear e3
  have K3 : Kept b w w3 := Kept.trans K2 k3
  have B0_3 : Arr w.heap.size [.int .i64 r1.1, .int .i64 a.2.1, .int .i64 a.2.2] w3 := B0_2.kept k3 (Nat.ne_of_gt y1_BF)
  have B1_3 : Arr (w.heap.size + 1) [.int .i64 0, .int .i64 0, .int .i64 0] w3 := B1_2.kept k3 (Nat.ne_of_gt y2_BF)
  have z3 := B1_3.lies
  clear c4_B0_1 K2 BF_2 B0_2 B1_2 k3
  have c5_B0_1 : w3.cell? ⟨w.heap.size, 1, none⟩ = some (.int .i64 a.2.1) := B0_3.c 1 (of_decide_eq_true rfl)
  have g5_B0_1 := B0_3.f 1 (of_decide_eq_true rfl)
  go_wp2_with fail
  clear c5_B0_1 g5_B0_1
  refine rounds_letter (S := fun w' => Kept b w w' ∧ Fl b r3.2 w' ∧ Arr w.heap.size [.int .i64 r1.1, .int .i64 r3.1, .int .i64 a.2.2] w' ∧ Arr (w.heap.size + 1) [.int .i64 0, .int .i64 0, .int .i64 0] w') ⟨(K3.new _ _ (by omega) _), (f3.new w.heap.size 1 (Nat.ne_of_lt y1_BF) (.int .i64 r3.1)), (B0_3.put 1 (of_decide_eq_true rfl) (.int .i64 r3.1) [.int .i64 r1.1, .int .i64 r3.1, .int .i64 a.2.2] rfl), (B1_3.new w.heap.size 1 (Nat.ne_of_gt y2_B0) (.int .i64 r3.1))⟩ ?_
  rintro w4 ⟨K4, BF_4, B0_4, B1_4⟩
  have z4 := B1_4.lies
  clear K3 f3 B0_3 B1_3
  rw [rounds_succ]
  have c6_B0_2 : w4.cell? ⟨w.heap.size, 2, none⟩ = some (.int .i64 a.2.2) := B0_4.c 2 (of_decide_eq_true rfl)
  go_wp2_with fail
  refine (Part_any b r3.2 a.2.2 p q _ BF_4).mono ?_
  rintro e w5 ⟨rfl, f5, k5⟩
  generalize e5 : partS r3.2 a.2.2 p q = r5 at f5 ⊢
  have E5 : Hid _ := e5
  clear e5
  have K5 : Kept b w w5 := Kept.trans K4 k5
  have B0_5 : Arr w.heap.size [.int .i64 r1.1, .int .i64 r3.1, .int .i64 a.2.2] w5 := B0_4.kept k5 (Nat.ne_of_gt y1_BF)
  have B1_5 : Arr (w.heap.size + 1) [.int .i64 0, .int .i64 0, .int .i64 0] w5 := B1_4.kept k5 (Nat.ne_of_gt y2_BF)
  have z5 := B1_5.lies
  clear c6_B0_2 K4 BF_4 B0_4 B1_4 k5
  have c7_B0_2 : w5.cell? ⟨w.heap.size, 2, none⟩ = some (.int .i64 a.2.2) := B0_5.c 2 (of_decide_eq_true rfl)
  have g7_B0_2 := B0_5.f 2 (of_decide_eq_true rfl)
  go_wp2_with fail
  clear c7_B0_2 g7_B0_2
  refine rounds_letter (S := fun w' => Kept b w w' ∧ Fl b r5.2 w' ∧ Arr w.heap.size [.int .i64 r1.1, .int .i64 r3.1, .int .i64 r5.1] w' ∧ Arr (w.heap.size + 1) [.int .i64 0, .int .i64 0, .int .i64 0] w') ⟨(K5.new _ _ (by omega) _), (f5.new w.heap.size 2 (Nat.ne_of_lt y1_BF) (.int .i64 r5.1)), (B0_5.put 2 (of_decide_eq_true rfl) (.int .i64 r5.1) [.int .i64 r1.1, .int .i64 r3.1, .int .i64 r5.1] rfl), (B1_5.new w.heap.size 2 (Nat.ne_of_gt y2_B0) (.int .i64 r5.1))⟩ ?_
  rintro w6 ⟨K6, BF_6, B0_6, B1_6⟩
  have z6 := B1_6.lies
  clear K5 f5 B0_5 B1_5
  rw [rounds_succ]
  have c8_B0_0 : w6.cell? ⟨w.heap.size, 0, none⟩ = some (.int .i64 r1.1) := B0_6.c 0 (of_decide_eq_true rfl)
  have c8_B0_1 : w6.cell? ⟨w.heap.size, 1, none⟩ = some (.int .i64 r3.1) := B0_6.c 1 (of_decide_eq_true rfl)
  have c8_B0_2 : w6.cell? ⟨w.heap.size, 2, none⟩ = some (.int .i64 r5.1) := B0_6.c 2 (of_decide_eq_true rfl)
  have c8_B1_0 : w6.cell? ⟨w.heap.size + 1, 0, none⟩ = some (.int .i64 0) := B1_6.c 0 (of_decide_eq_true rfl)
  have c8_B1_1 : w6.cell? ⟨w.heap.size + 1, 1, none⟩ = some (.int .i64 0) := B1_6.c 1 (of_decide_eq_true rfl)
  have c8_B1_2 : w6.cell? ⟨w.heap.size + 1, 2, none⟩ = some (.int .i64 0) := B1_6.c 2 (of_decide_eq_true rfl)
  have g8_B1_0 := B1_6.f 0 (of_decide_eq_true rfl)
  have g8_B1_1 := B1_6.f 1 (of_decide_eq_true rfl)
  have g8_B1_2 := B1_6.f 2 (of_decide_eq_true rfl)
  go_wp2_with (with_reducible refine post_stop ?_)
  refine Stop.mk ?_
  clear c8_B0_0 c8_B0_1 c8_B0_2 c8_B1_0 c8_B1_1 c8_B1_2 g8_B1_0 g8_B1_1 g8_B1_2
  refine bodyPost_ret (v := .agg #[.int .i64 r1.1, .int .i64 r3.1, .int .i64 r5.1]) (results_arr Try.results20 (((B1_6.put 0 (of_decide_eq_true rfl) (.int .i64 r1.1) [.int .i64 r1.1, .int .i64 0, .int .i64 0] rfl).put 1 (of_decide_eq_true rfl) (.int .i64 r3.1) [.int .i64 r1.1, .int .i64 r3.1, .int .i64 0] rfl).put 2 (of_decide_eq_true rfl) (.int .i64 r5.1) [.int .i64 r1.1, .int .i64 r3.1, .int .i64 r5.1] rfl) rfl (by kernel_rfl) (by kernel_rfl)) rfl ?_
  have hs : bpartS bad a p q = ((r1.1, r3.1, r5.1), r5.2) := by unfold bpartS; simp only [E1.out, E3.out, E5.out]
  rw [hs]
  exact ⟨rfl, (((BF_6.new (w.heap.size + 1) 0 (Nat.ne_of_lt y2_BF) (.int .i64 r1.1)).new (w.heap.size + 1) 1 (Nat.ne_of_lt y2_BF) (.int .i64 r3.1)).new (w.heap.size + 1) 2 (Nat.ne_of_lt y2_BF) (.int .i64 r5.1)), (((K6.new _ _ (by omega) _).new _ _ (by omega) _).new _ _ (by omega) _)⟩
set_option maxRecDepth 100000 in
set_option maxHeartbeats 2000000 in
theorem lean_any (b : Nat) (bad : Bool) (d : Dr) (v : V3) (t : Int) (w : World) (hw : Fl b bad w) (ht : 10 ≤ t) (hu : t ≤ 10000) :
    Calls Try.prog 13 #[.pointer (some ⟨b, 0, none⟩), .agg #[.bool d.1, .int .i64 d.2.1, .int .i64 d.2.2.1, .int .i64 d.2.2.2.1, .int .i64 d.2.2.2.2.1, .int .i64 d.2.2.2.2.2.1, .int .i64 d.2.2.2.2.2.2.1, .int .i64 d.2.2.2.2.2.2.2], .agg #[.int .i64 v.1, .int .i64 v.2.1, .int .i64 v.2.2], .int .i64 t] w fun e w' => e = .returned (.agg #[.int .i64 ((leanS bad d v t).1.1), .int .i64 ((leanS bad d v t).1.2.1), .int .i64 ((leanS bad d v t).1.2.2)]) ∧ Fl b (leanS bad d v t).2 w' ∧ Kept b w w' := by
  have hl := hw.lies
  go_enter Try.func13, Try.ntmps13
  have y1_BF : b < w.heap.size := hw.lies
  have y2_BF : b < w.heap.size + 1 := (Nat.lt_succ_of_lt hw.lies)
  have y2_B0 : w.heap.size < w.heap.size + 1 := (Nat.lt_succ_self _)
  have y3_BF : b < w.heap.size + 1 + 1 := (Nat.lt_succ_of_lt (Nat.lt_succ_of_lt hw.lies))
  have y3_B0 : w.heap.size < w.heap.size + 1 + 1 := (Nat.lt_succ_of_lt (Nat.lt_succ_self _))
  have y3_B1 : w.heap.size + 1 < w.heap.size + 1 + 1 := (Nat.lt_succ_self _)
  go_wp2_with fail
  refine (vSub_any b bad v (d.2.2.1, d.2.2.2.1, d.2.2.2.2.1) _ (((hw.alloc _).alloc _).alloc _)).mono ?_
  rintro e w1 ⟨rfl, f1, k1⟩
  generalize e1 : vSubS bad v (d.2.2.1, d.2.2.2.1, d.2.2.2.2.1) = r1 at f1 ⊢
  have E1 : Hid _ := e1
  clear e1
  have K1 : Kept b w w1 := Kept.trans ((((Kept.refl b w).al _).al _).al _) k1
  have B0_1 : Arr w.heap.size [.bool d.1, .int .i64 d.2.1, .int .i64 d.2.2.1, .int .i64 d.2.2.2.1, .int .i64 d.2.2.2.2.1, .int .i64 d.2.2.2.2.2.1, .int .i64 d.2.2.2.2.2.2.1, .int .i64 d.2.2.2.2.2.2.2] w1 := (((Arr_at _ _ [.bool d.1, .int .i64 d.2.1, .int .i64 d.2.2.1, .int .i64 d.2.2.2.1, .int .i64 d.2.2.2.2.1, .int .i64 d.2.2.2.2.2.1, .int .i64 d.2.2.2.2.2.2.1, .int .i64 d.2.2.2.2.2.2.2] _ (by simp)).alloc _).alloc _).kept k1 (Nat.ne_of_gt y1_BF)
  have B1_1 : Arr (w.heap.size + 1) [.int .i64 v.1, .int .i64 v.2.1, .int .i64 v.2.2] w1 := ((Arr_at _ _ [.int .i64 v.1, .int .i64 v.2.1, .int .i64 v.2.2] _ (by simp)).alloc _).kept k1 (Nat.ne_of_gt y2_BF)
  have B2_1 : Arr (w.heap.size + 1 + 1) [.int .i64 0, .int .i64 0, .int .i64 0] w1 := (Arr_at _ _ [.int .i64 0, .int .i64 0, .int .i64 0] _ (by simp)).kept k1 (Nat.ne_of_gt y3_BF)
  have z1 := B2_1.lies
  clear k1
  go_wp2_with fail
  refine (bpart_any b r1.2 r1.1 1000 t _ f1).mono ?_
  rintro e w2 ⟨rfl, f2, k2⟩
  generalize e2 : bpartS r1.2 r1.1 1000 t = r2 at f2 ⊢
  have E2 : Hid _ := e2
  clear e2
  have K2 : Kept b w w2 := Kept.trans K1 k2
  have B0_2 : Arr w.heap.size [.bool d.1, .int .i64 d.2.1, .int .i64 d.2.2.1, .int .i64 d.2.2.2.1, .int .i64 d.2.2.2.2.1, .int .i64 d.2.2.2.2.2.1, .int .i64 d.2.2.2.2.2.2.1, .int .i64 d.2.2.2.2.2.2.2] w2 := B0_1.kept k2 (Nat.ne_of_gt y1_BF)
  have B1_2 : Arr (w.heap.size + 1) [.int .i64 v.1, .int .i64 v.2.1, .int .i64 v.2.2] w2 := B1_1.kept k2 (Nat.ne_of_gt y2_BF)
  have B2_2 : Arr (w.heap.size + 1 + 1) [.int .i64 0, .int .i64 0, .int .i64 0] w2 := B2_1.kept k2 (Nat.ne_of_gt y3_BF)
  have z2 := B2_2.lies
  clear K1 f1 B0_1 B1_1 B2_1 k2
  have y4_BF : b < w2.heap.size := f2.lies
  have y4_B0 : w.heap.size < w2.heap.size := B0_2.lies
  have y4_B1 : w.heap.size + 1 < w2.heap.size := B1_2.lies
  have y4_B2 : w.heap.size + 1 + 1 < w2.heap.size := B2_2.lies
  go_wp2_with fail
  refine wp_region_held_drew (S := fun w' => Arr w.heap.size [.bool d.1, .int .i64 d.2.1, .int .i64 d.2.2.1, .int .i64 d.2.2.2.1, .int .i64 d.2.2.2.2.1, .int .i64 d.2.2.2.2.2.1, .int .i64 d.2.2.2.2.2.2.1, .int .i64 d.2.2.2.2.2.2.2] w' ∧ Arr w2.heap.size [.int .i64 r2.1.1, .int .i64 r2.1.2.1, .int .i64 r2.1.2.2] w') (by kernel_rfl) ⟨(B0_2.alloc _).drew, (Arr_at _ _ [.int .i64 r2.1.1, .int .i64 r2.1.2.1, .int .i64 r2.1.2.2] _ (by simp)).drew⟩ (fun hHeld => ?_)
  refine take_at (i := 0) (v := ?v1) rfl (by kernel_rfl) (by kernel_rfl) (by kernel_rfl) (fun _ _ _ h => h) (Or.inl ⟨by rfl, ?y1⟩) hHeld ?t1
  case y1 => (intro wx hSw; go_simp <;> with_reducible rfl)
  simp only [Act.put, List.setIfInBounds_toArray, List.set_cons_zero, List.set_cons_succ]
  refine take_at (i := 1) (v := ?v2) rfl (by kernel_rfl) (by kernel_rfl) (by kernel_rfl) (fun _ _ _ h => h) (Or.inl ⟨by rfl, ?y2⟩) hHeld ?t2
  case y2 => (intro wx hSw; go_simp <;> with_reducible rfl)
  simp only [Act.put, List.setIfInBounds_toArray, List.set_cons_zero, List.set_cons_succ]
  refine take_at (i := 2) (v := ?v3) rfl (by kernel_rfl) (by kernel_rfl) (by kernel_rfl) (fun _ _ _ h => h) (Or.inl ⟨by rfl, ?y3⟩) hHeld ?t3
  case y3 => (intro wx hSw; have hc5 : wx.cell? ⟨w.heap.size, 5, none⟩ = some (.int .i64 d.2.2.2.2.2.1) := hSw.1.c 5 (of_decide_eq_true rfl); have hc6 : wx.cell? ⟨w.heap.size, 6, none⟩ = some (.int .i64 d.2.2.2.2.2.2.1) := hSw.1.c 6 (of_decide_eq_true rfl); have hc7 : wx.cell? ⟨w.heap.size, 7, none⟩ = some (.int .i64 d.2.2.2.2.2.2.2) := hSw.1.c 7 (of_decide_eq_true rfl); go_simp <;> with_reducible rfl)
  simp only [Act.put, List.setIfInBounds_toArray, List.set_cons_zero, List.set_cons_succ]
  refine take_at (i := 3) (v := ?v4) rfl (by kernel_rfl) (by kernel_rfl) (by kernel_rfl) (fun _ _ _ h => h) (Or.inl ⟨by rfl, ?y4⟩) hHeld ?t4
  case y4 => (intro wx hSw; go_simp <;> with_reducible rfl)
  simp only [Act.put, List.setIfInBounds_toArray, List.set_cons_zero, List.set_cons_succ]
  refine take_at (i := 4) (v := ?v5) rfl (by kernel_rfl) (by kernel_rfl) (by kernel_rfl) (fun _ _ _ h => h) (Or.inl ⟨by rfl, ?y5⟩) hHeld ?t5
  case y5 => (intro wx hSw; go_simp <;> with_reducible rfl)
  simp only [Act.put, List.setIfInBounds_toArray, List.set_cons_zero, List.set_cons_succ]
  refine take_at (i := 5) (v := ?v6) rfl (by kernel_rfl) (by kernel_rfl) (by kernel_rfl) (fun _ _ _ h => h) (Or.inl ⟨by rfl, ?y6⟩) hHeld ?t6
  case y6 => (intro wx hSw; have hc0 : wx.cell? ⟨w2.heap.size, 0, none⟩ = some (.int .i64 r2.1.1) := hSw.2.c 0 (of_decide_eq_true rfl); have hc1 : wx.cell? ⟨w2.heap.size, 1, none⟩ = some (.int .i64 r2.1.2.1) := hSw.2.c 1 (of_decide_eq_true rfl); have hc2 : wx.cell? ⟨w2.heap.size, 2, none⟩ = some (.int .i64 r2.1.2.2) := hSw.2.c 2 (of_decide_eq_true rfl); go_simp <;> with_reducible rfl)
  simp only [Act.put, List.setIfInBounds_toArray, List.set_cons_zero, List.set_cons_succ]
  refine take_at (i := 6) (v := ?v7) rfl (by kernel_rfl) (by kernel_rfl) (by kernel_rfl) (fun _ _ _ h => h) (Or.inl ⟨by rfl, ?y7⟩) hHeld ?t7
  case y7 => (intro wx hSw; go_simp <;> with_reducible rfl)
  simp only [Act.put, List.setIfInBounds_toArray, List.set_cons_zero, List.set_cons_succ]
  refine take_at (i := 7) (v := ?v8) rfl (by kernel_rfl) (by kernel_rfl) (by kernel_rfl) (fun _ _ _ h => h) (Or.inl ⟨by rfl, ?y8⟩) hHeld ?t8
  case y8 => (intro wx hSw; have hc5 : wx.cell? ⟨w.heap.size, 5, none⟩ = some (.int .i64 d.2.2.2.2.2.1) := hSw.1.c 5 (of_decide_eq_true rfl); have hc6 : wx.cell? ⟨w.heap.size, 6, none⟩ = some (.int .i64 d.2.2.2.2.2.2.1) := hSw.1.c 6 (of_decide_eq_true rfl); have hc7 : wx.cell? ⟨w.heap.size, 7, none⟩ = some (.int .i64 d.2.2.2.2.2.2.2) := hSw.1.c 7 (of_decide_eq_true rfl); go_simp <;> with_reducible rfl)
  simp only [Act.put, List.setIfInBounds_toArray, List.set_cons_zero, List.set_cons_succ]
  refine take_at (i := 9) (v := ?v9) rfl (by kernel_rfl) (by kernel_rfl) (by kernel_rfl) (fun _ _ _ h => h) (Or.inl ⟨by rfl, ?y9⟩) hHeld ?t9
  case y9 => (intro wx hSw; go_simp <;> with_reducible rfl)
  simp only [Act.put, List.setIfInBounds_toArray, List.set_cons_zero, List.set_cons_succ]
  refine take_at (i := 10) (v := ?v10) rfl (by kernel_rfl) (by kernel_rfl) (by kernel_rfl) (fun _ _ _ h => h) (Or.inl ⟨by rfl, ?y10⟩) hHeld ?t10
  case y10 => (intro wx hSw; go_simp <;> with_reducible rfl)
  simp only [Act.put, List.setIfInBounds_toArray, List.set_cons_zero, List.set_cons_succ]
  refine take_at (i := 11) (v := ?v11) rfl (by kernel_rfl) (by kernel_rfl) (by kernel_rfl) (fun _ _ _ h => h) (Or.inl ⟨by rfl, ?y11⟩) hHeld ?t11
  case y11 => (intro wx hSw; go_simp <;> with_reducible rfl)
  simp only [Act.put, List.setIfInBounds_toArray, List.set_cons_zero, List.set_cons_succ]
  rw [IntWalk.i64_in (t + 2000) (by omega)]
  refine call_at (i := 8) (by kernel_rfl) rfl (fun K hK => ?_)
  go_simp
  refine (vSub_any b r2.2 r2.1 d.2.2.2.2.2 _ (f2.alloc _).drew).mono ?_
  rintro e w3 ⟨rfl, f3, k3⟩
  generalize e3 : vSubS r2.2 r2.1 d.2.2.2.2.2 = r3 at f3 ⊢
  have E3 : Hid _ := e3
  clear e3
  have K3 : Kept b w w3 := Kept.trans (K2.al _).drew k3
  have B0_3 : Arr w.heap.size [.bool d.1, .int .i64 d.2.1, .int .i64 d.2.2.1, .int .i64 d.2.2.2.1, .int .i64 d.2.2.2.2.1, .int .i64 d.2.2.2.2.2.1, .int .i64 d.2.2.2.2.2.2.1, .int .i64 d.2.2.2.2.2.2.2] w3 := (B0_2.alloc _).drew.kept k3 (Nat.ne_of_gt y1_BF)
  have B1_3 : Arr (w.heap.size + 1) [.int .i64 v.1, .int .i64 v.2.1, .int .i64 v.2.2] w3 := (B1_2.alloc _).drew.kept k3 (Nat.ne_of_gt y2_BF)
  have B2_3 : Arr (w.heap.size + 1 + 1) [.int .i64 0, .int .i64 0, .int .i64 0] w3 := (B2_2.alloc _).drew.kept k3 (Nat.ne_of_gt y3_BF)
  have B3_3 : Arr w2.heap.size [.int .i64 r2.1.1, .int .i64 r2.1.2.1, .int .i64 r2.1.2.2] w3 := (Arr_at _ _ [.int .i64 r2.1.1, .int .i64 r2.1.2.1, .int .i64 r2.1.2.2] _ (by simp)).drew.kept k3 (Nat.ne_of_gt y4_BF)
  have z3 := B3_3.lies
  clear hHeld
  refine hK.out _ _ ⟨B0_3, B3_3⟩ (fun hHeld => ?_)
  clear hK K K2 f2 B0_2 B1_2 B2_2 k3
  refine call_at (i := 12) (by kernel_rfl) rfl (fun K hK => ?_)
  go_simp
  refine (bpart_any b r3.2 r3.1 t (t + 2000) _ f3).mono ?_
  rintro e w4 ⟨rfl, f4, k4⟩
  generalize e4 : bpartS r3.2 r3.1 t (t + 2000) = r4 at f4 ⊢
  have E4 : Hid _ := e4
  clear e4
  have K4 : Kept b w w4 := Kept.trans K3 k4
  have B0_4 : Arr w.heap.size [.bool d.1, .int .i64 d.2.1, .int .i64 d.2.2.1, .int .i64 d.2.2.2.1, .int .i64 d.2.2.2.2.1, .int .i64 d.2.2.2.2.2.1, .int .i64 d.2.2.2.2.2.2.1, .int .i64 d.2.2.2.2.2.2.2] w4 := B0_3.kept k4 (Nat.ne_of_gt y1_BF)
  have B1_4 : Arr (w.heap.size + 1) [.int .i64 v.1, .int .i64 v.2.1, .int .i64 v.2.2] w4 := B1_3.kept k4 (Nat.ne_of_gt y2_BF)
  have B2_4 : Arr (w.heap.size + 1 + 1) [.int .i64 0, .int .i64 0, .int .i64 0] w4 := B2_3.kept k4 (Nat.ne_of_gt y3_BF)
  have B3_4 : Arr w2.heap.size [.int .i64 r2.1.1, .int .i64 r2.1.2.1, .int .i64 r2.1.2.2] w4 := B3_3.kept k4 (Nat.ne_of_gt y4_BF)
  have z4 := B3_4.lies
  clear hHeld
  refine hK.out _ _ ⟨B0_4, B3_4⟩ (fun hHeld => ?_)
  clear hK K K3 f3 B0_3 B1_3 B2_3 B3_3 k4
  refine call_at (i := 13) (by kernel_rfl) rfl (fun K hK => ?_)
  go_simp
  refine (vAdd_any b r4.2 d.2.2.2.2.2 r4.1 _ f4).mono ?_
  rintro e w5 ⟨rfl, f5, k5⟩
  generalize e5 : vAddS r4.2 d.2.2.2.2.2 r4.1 = r5 at f5 ⊢
  have E5 : Hid _ := e5
  clear e5
  have K5 : Kept b w w5 := Kept.trans K4 k5
  have B0_5 : Arr w.heap.size [.bool d.1, .int .i64 d.2.1, .int .i64 d.2.2.1, .int .i64 d.2.2.2.1, .int .i64 d.2.2.2.2.1, .int .i64 d.2.2.2.2.2.1, .int .i64 d.2.2.2.2.2.2.1, .int .i64 d.2.2.2.2.2.2.2] w5 := B0_4.kept k5 (Nat.ne_of_gt y1_BF)
  have B1_5 : Arr (w.heap.size + 1) [.int .i64 v.1, .int .i64 v.2.1, .int .i64 v.2.2] w5 := B1_4.kept k5 (Nat.ne_of_gt y2_BF)
  have B2_5 : Arr (w.heap.size + 1 + 1) [.int .i64 0, .int .i64 0, .int .i64 0] w5 := B2_4.kept k5 (Nat.ne_of_gt y3_BF)
  have B3_5 : Arr w2.heap.size [.int .i64 r2.1.1, .int .i64 r2.1.2.1, .int .i64 r2.1.2.2] w5 := B3_4.kept k5 (Nat.ne_of_gt y4_BF)
  have z5 := B3_5.lies
  clear hHeld
  refine hK.out _ _ ⟨B0_5, B3_5⟩ (fun hHeld => ?_)
  clear hK K K4 f4 B0_4 B1_4 B2_4 B3_4 k5
  refine call_at (i := 14) (by kernel_rfl) rfl (fun K hK => ?_)
  have c4_B2_0 : w5.cell? ⟨w.heap.size + 1 + 1, 0, none⟩ = some (.int .i64 0) := B2_5.c 0 (of_decide_eq_true rfl)
  have c4_B2_1 : w5.cell? ⟨w.heap.size + 1 + 1, 1, none⟩ = some (.int .i64 0) := B2_5.c 1 (of_decide_eq_true rfl)
  have c4_B2_2 : w5.cell? ⟨w.heap.size + 1 + 1, 2, none⟩ = some (.int .i64 0) := B2_5.c 2 (of_decide_eq_true rfl)
  have g4_B2_0 := B2_5.f 0 (of_decide_eq_true rfl)
  have g4_B2_1 := B2_5.f 1 (of_decide_eq_true rfl)
  have g4_B2_2 := B2_5.f 2 (of_decide_eq_true rfl)
  go_simp
  clear hHeld
  refine hK.out _ _ ⟨(((B0_5.new (w.heap.size + 1 + 1) 0 (Nat.ne_of_lt y3_B0) (.int .i64 r5.1.1)).new (w.heap.size + 1 + 1) 1 (Nat.ne_of_lt y3_B0) (.int .i64 r5.1.2.1)).new (w.heap.size + 1 + 1) 2 (Nat.ne_of_lt y3_B0) (.int .i64 r5.1.2.2)), (((B3_5.new (w.heap.size + 1 + 1) 0 (Nat.ne_of_gt y4_B2) (.int .i64 r5.1.1)).new (w.heap.size + 1 + 1) 1 (Nat.ne_of_gt y4_B2) (.int .i64 r5.1.2.1)).new (w.heap.size + 1 + 1) 2 (Nat.ne_of_gt y4_B2) (.int .i64 r5.1.2.2))⟩ (fun hHeld => ?_)
  clear hK K c4_B2_0 c4_B2_1 c4_B2_2 g4_B2_0 g4_B2_1 g4_B2_2
  refine wpAnyH_done (by kernel_rfl) ?_ _
  clear hHeld
  go_wp2_with (with_reducible refine post_stop ?_)
  refine Stop.mk ?_
  refine bodyPost_ret (v := .agg #[.int .i64 r5.1.1, .int .i64 r5.1.2.1, .int .i64 r5.1.2.2]) (results_arr Try.results13 (((B2_5.put 0 (of_decide_eq_true rfl) (.int .i64 r5.1.1) [.int .i64 r5.1.1, .int .i64 0, .int .i64 0] rfl).put 1 (of_decide_eq_true rfl) (.int .i64 r5.1.2.1) [.int .i64 r5.1.1, .int .i64 r5.1.2.1, .int .i64 0] rfl).put 2 (of_decide_eq_true rfl) (.int .i64 r5.1.2.2) [.int .i64 r5.1.1, .int .i64 r5.1.2.1, .int .i64 r5.1.2.2] rfl) rfl (by kernel_rfl) (by kernel_rfl)) rfl ?_
  have hs : leanS bad d v t = (r5.1, r5.2) := by unfold leanS; simp only [E1.out, E2.out, E3.out, E4.out, E5.out]
  rw [hs]
  exact ⟨rfl, (((f5.new (w.heap.size + 1 + 1) 0 (Nat.ne_of_lt y3_BF) (.int .i64 r5.1.1)).new (w.heap.size + 1 + 1) 1 (Nat.ne_of_lt y3_BF) (.int .i64 r5.1.2.1)).new (w.heap.size + 1 + 1) 2 (Nat.ne_of_lt y3_BF) (.int .i64 r5.1.2.2)), (((K5.new _ _ (by omega) _).new _ _ (by omega) _).new _ _ (by omega) _)⟩
end Go.Proofs.Ytibjmmlnkgapeaa
