/-
  The walk of the reference's Step, for the seat Ytibjmmlnkgapeaa. (Made by mkbdot.py.)
-/
import Derived.Test.YtibjmmlnkgapeaaBdRSpec
import Derived.Test.YtibjmmlnkgapeaaRMeth
import Derived.Test.YtibjmmlnkgapeaaVFold
import Derived.Test.YtibjmmlnkgapeaaStop
import Derived.Handy
import Derived.Deep.RegionHeld3
namespace Go.Proofs.Ytibjmmlnkgapeaa
open Go.RowKit

set_option maxRecDepth 100000 in
set_option maxHeartbeats 2000000 in
theorem rStep_in (b : Nat) (bad : Bool) (d : D7) (v : V3) (k t : Int) (w : World) (hw : Fl b bad w) (hd : -9223372036854775808 ≤ d.1 ∧ d.1 ≤ 9223372036854775807) (hk : -9223372036854775808 ≤ k ∧ k ≤ 9223372036854775807) (ht : 10 ≤ t) (hu : t ≤ 10000) (HK : Hid (k = d.1 + t)) :
    Calls Try.prog 9 #[.pointer (some ⟨b, 0, none⟩), .agg #[.bool true, .int .i64 d.1, .int .i64 d.2.1, .int .i64 d.2.2.1, .int .i64 d.2.2.2.1, .int .i64 d.2.2.2.2.1, .int .i64 d.2.2.2.2.2.1, .int .i64 d.2.2.2.2.2.2], .agg #[.int .i64 v.1, .int .i64 v.2.1, .int .i64 v.2.2], .int .i64 k] w fun e w' => e = .returned (.agg #[.bool ((rStepIn bad d v k t).1.1), .int .i64 ((rStepIn bad d v k t).1.2.1), .int .i64 ((rStepIn bad d v k t).1.2.2.1), .int .i64 ((rStepIn bad d v k t).1.2.2.2.1), .int .i64 ((rStepIn bad d v k t).1.2.2.2.2.1), .int .i64 ((rStepIn bad d v k t).1.2.2.2.2.2.1), .int .i64 ((rStepIn bad d v k t).1.2.2.2.2.2.2.1), .int .i64 ((rStepIn bad d v k t).1.2.2.2.2.2.2.2)]) ∧ Fl b (rStepIn bad d v k t).2 w' ∧ Kept b w w' := by
  have hl := hw.lies
  go_enter Try.func9, Try.ntmps9
  have y1_BF : b < w.heap.size := hw.lies
  have y2_BF : b < w.heap.size + 1 := (Nat.lt_succ_of_lt hw.lies)
  have y2_B0 : w.heap.size < w.heap.size + 1 := (Nat.lt_succ_self _)
  have y3_BF : b < w.heap.size + 1 + 1 := (Nat.lt_succ_of_lt (Nat.lt_succ_of_lt hw.lies))
  have y3_B0 : w.heap.size < w.heap.size + 1 + 1 := (Nat.lt_succ_of_lt (Nat.lt_succ_self _))
  have y3_B1 : w.heap.size + 1 < w.heap.size + 1 + 1 := (Nat.lt_succ_self _)
  go_wp2_with fail
  refine wp_loop_rounds 4 ?_
  rw [rounds_succ]
  go_wp2_with fail
  refine (rAdd_any b bad v.1 0 _ (((hw.alloc _).alloc _).alloc _)).mono ?_
  rintro e w1 ⟨rfl, f1, k1⟩
  generalize e1 : addS bad v.1 0 = r1 at f1 ⊢
  have E1 : Hid _ := e1
  clear e1
  have K1 : Kept b w w1 := Kept.trans ((((Kept.refl b w).al _).al _).al _) k1
  have B0_1 : Arr w.heap.size [.bool true, .int .i64 d.1, .int .i64 d.2.1, .int .i64 d.2.2.1, .int .i64 d.2.2.2.1, .int .i64 d.2.2.2.2.1, .int .i64 d.2.2.2.2.2.1, .int .i64 d.2.2.2.2.2.2] w1 := (((Arr_at _ _ [.bool true, .int .i64 d.1, .int .i64 d.2.1, .int .i64 d.2.2.1, .int .i64 d.2.2.2.1, .int .i64 d.2.2.2.2.1, .int .i64 d.2.2.2.2.2.1, .int .i64 d.2.2.2.2.2.2] _ (by simp)).alloc _).alloc _).kept k1 (Nat.ne_of_gt y1_BF)
  have B1_1 : Arr (w.heap.size + 1) [.int .i64 v.1, .int .i64 v.2.1, .int .i64 v.2.2] w1 := ((Arr_at _ _ [.int .i64 v.1, .int .i64 v.2.1, .int .i64 v.2.2] _ (by simp)).alloc _).kept k1 (Nat.ne_of_gt y2_BF)
  have B2_1 : Arr (w.heap.size + 1 + 1) [.bool false, .int .i64 0, .int .i64 0, .int .i64 0, .int .i64 0, .int .i64 0, .int .i64 0, .int .i64 0] w1 := (Arr_at _ _ [.bool false, .int .i64 0, .int .i64 0, .int .i64 0, .int .i64 0, .int .i64 0, .int .i64 0, .int .i64 0] _ (by simp)).kept k1 (Nat.ne_of_gt y3_BF)
  have z1 := B2_1.lies
  clear k1
  go_wp2_with fail
  rw [rounds_succ]
  have c4_B1_1 : w1.cell? ⟨w.heap.size + 1, 1, none⟩ = some (.int .i64 v.2.1) := B1_1.c 1 (of_decide_eq_true rfl)
  go_wp2_with fail
  refine (rAdd_any b r1.2 v.2.1 0 _ f1).mono ?_
  rintro e w2 ⟨rfl, f2, k2⟩
  generalize e2 : addS r1.2 v.2.1 0 = r2 at f2 ⊢
  have E2 : Hid _ := e2
  clear e2
  have K2 : Kept b w w2 := Kept.trans K1 k2
  have B0_2 : Arr w.heap.size [.bool true, .int .i64 d.1, .int .i64 d.2.1, .int .i64 d.2.2.1, .int .i64 d.2.2.2.1, .int .i64 d.2.2.2.2.1, .int .i64 d.2.2.2.2.2.1, .int .i64 d.2.2.2.2.2.2] w2 := B0_1.kept k2 (Nat.ne_of_gt y1_BF)
  have B1_2 : Arr (w.heap.size + 1) [.int .i64 v.1, .int .i64 v.2.1, .int .i64 v.2.2] w2 := B1_1.kept k2 (Nat.ne_of_gt y2_BF)
  have B2_2 : Arr (w.heap.size + 1 + 1) [.bool false, .int .i64 0, .int .i64 0, .int .i64 0, .int .i64 0, .int .i64 0, .int .i64 0, .int .i64 0] w2 := B2_1.kept k2 (Nat.ne_of_gt y3_BF)
  have z2 := B2_2.lies
  clear c4_B1_1 K1 f1 B0_1 B1_1 B2_1 k2
  go_wp2_with fail
  rw [rounds_succ]
  have c6_B1_2 : w2.cell? ⟨w.heap.size + 1, 2, none⟩ = some (.int .i64 v.2.2) := B1_2.c 2 (of_decide_eq_true rfl)
  go_wp2_with fail
  refine (rAdd_any b r2.2 v.2.2 0 _ f2).mono ?_
  rintro e w3 ⟨rfl, f3, k3⟩
  generalize e3 : addS r2.2 v.2.2 0 = r3 at f3 ⊢
  have E3 : Hid _ := e3
  clear e3
  have K3 : Kept b w w3 := Kept.trans K2 k3
  have B0_3 : Arr w.heap.size [.bool true, .int .i64 d.1, .int .i64 d.2.1, .int .i64 d.2.2.1, .int .i64 d.2.2.2.1, .int .i64 d.2.2.2.2.1, .int .i64 d.2.2.2.2.2.1, .int .i64 d.2.2.2.2.2.2] w3 := B0_2.kept k3 (Nat.ne_of_gt y1_BF)
  have B1_3 : Arr (w.heap.size + 1) [.int .i64 v.1, .int .i64 v.2.1, .int .i64 v.2.2] w3 := B1_2.kept k3 (Nat.ne_of_gt y2_BF)
  have B2_3 : Arr (w.heap.size + 1 + 1) [.bool false, .int .i64 0, .int .i64 0, .int .i64 0, .int .i64 0, .int .i64 0, .int .i64 0, .int .i64 0] w3 := B2_2.kept k3 (Nat.ne_of_gt y3_BF)
  have z3 := B2_3.lies
  clear c6_B1_2 K2 f2 B0_2 B1_2 B2_2 k3
  go_wp2_with fail
  rw [rounds_succ]
  have c8_B0_1 : w3.cell? ⟨w.heap.size, 1, none⟩ = some (.int .i64 d.1) := B0_3.c 1 (of_decide_eq_true rfl)
  go_wp2_with fail
  go_loop [11, 10] (fun i x => ∃ c : Nat, c ≤ 9991 ∧ i = .int .i64 (10 + (c : Int)) ∧ x = .int .i64 (tB t c)) (fun i _ => 10001 - (intOf i).toNat)
  case atStart => exact ⟨0, by omega, rfl, by rw [tB_zero ht]⟩
  case round =>
    obtain ⟨c, hc, rfl, rfl⟩ := hrel
    by_cases hl : c < 9991
    · have w1 : IntKind.i64.wrap (9223372036854775807 - (10 + (c : Int))) = 9223372036854775807 - (10 + (c : Int)) := by rw [IntKind.wrap_i64]; omega
      by_cases c1 : d.1 ≤ 9223372036854775807 - (10 + (c : Int))
      · have w2 : IntKind.i64.wrap (d.1 + (10 + (c : Int))) = d.1 + (10 + (c : Int)) := by rw [IntKind.wrap_i64]; omega
        by_cases c2 : 10 + (c : Int) = t
        · have e2 : (d.1 + (10 + (c : Int)) == k) = true := by have := HK.out; simp; omega
          have HB : Hid (tB t (c + 1) = t) := tB_at c2
          generalize tB t c = x
          go_wp2
          go_round
          case rel => exact ⟨c + 1, by omega, by go_num, by rw [HB.out]⟩
          case measure => simp [intOf]; omega
        · have e2 : (d.1 + (10 + (c : Int)) == k) = false := by have := HK.out; simp; omega
          have HB : Hid (tB t (c + 1) = tB t c) := tB_next (by omega)
          generalize tB t c = x at HB ⊢
          go_wp2
          go_round
          case rel => exact ⟨c + 1, by omega, by go_num, by rw [HB.out]⟩
          case measure => simp [intOf]; omega
      · have HB : Hid (tB t (c + 1) = tB t c) := tB_next (by have := HK.out; omega)
        generalize tB t c = x at HB ⊢
        go_wp2
        go_round
        case rel => exact ⟨c + 1, by omega, by go_num, by rw [HB.out]⟩
        case measure => simp [intOf]; omega
    · obtain rfl : c = 9991 := by omega
      clear hc hl c8_B0_1
      rw [tB_last hu]
      have hz : (t == 0) = false := by simp; omega
      have y4_BF : b < w3.heap.size := f3.lies
      have y4_B0 : w.heap.size < w3.heap.size := B0_3.lies
      have y4_B1 : w.heap.size + 1 < w3.heap.size := B1_3.lies
      have y4_B2 : w.heap.size + 1 + 1 < w3.heap.size := B2_3.lies
      have c9_B0_0 : w3.cell? ⟨w.heap.size, 0, none⟩ = some (.bool true) := B0_3.c 0 (of_decide_eq_true rfl)
      have c9_B1_0 : w3.cell? ⟨w.heap.size + 1, 0, none⟩ = some (.int .i64 v.1) := B1_3.c 0 (of_decide_eq_true rfl)
      have c9_B1_1 : w3.cell? ⟨w.heap.size + 1, 1, none⟩ = some (.int .i64 v.2.1) := B1_3.c 1 (of_decide_eq_true rfl)
      have c9_B1_2 : w3.cell? ⟨w.heap.size + 1, 2, none⟩ = some (.int .i64 v.2.2) := B1_3.c 2 (of_decide_eq_true rfl)
      have l9_B0 := B0_3.lies
      have l9_B1 := B1_3.lies
      go_wp2_with fail
      clear c9_B0_0 c9_B1_0 c9_B1_1 c9_B1_2 l9_B0 l9_B1
      refine wp_loop_rounds 4 ?_
      rw [rounds_succ]
      go_wp2_with fail
      refine wp_region_held_drew (S := fun w' => Arr (w.heap.size + 1) [.int .i64 v.1, .int .i64 v.2.1, .int .i64 v.2.2] w' ∧ Arr w.heap.size [.bool true, .int .i64 d.1, .int .i64 d.2.1, .int .i64 d.2.2.1, .int .i64 d.2.2.2.1, .int .i64 d.2.2.2.2.1, .int .i64 d.2.2.2.2.2.1, .int .i64 d.2.2.2.2.2.2] w') (by kernel_rfl) ⟨(B1_3.alloc _).drew, (B0_3.alloc _).drew⟩ (fun hHeld => ?_)
      refine take_at (i := 0) (v := ?v88) rfl (by kernel_rfl) (by kernel_rfl) (by kernel_rfl) (fun _ _ _ h => h) (Or.inl ⟨by rfl, ?y88⟩) hHeld ?t88
      case y88 => (intro wx hSw; go_simp <;> with_reducible rfl)
      simp only [Act.put, List.setIfInBounds_toArray, List.set_cons_zero, List.set_cons_succ]
      refine take_at (i := 1) (v := ?v89) rfl (by kernel_rfl) (by kernel_rfl) (by kernel_rfl) (fun _ _ _ h => h) (Or.inl ⟨by rfl, ?y89⟩) hHeld ?t89
      case y89 => (intro wx hSw; go_simp <;> with_reducible rfl)
      simp only [Act.put, List.setIfInBounds_toArray, List.set_cons_zero, List.set_cons_succ]
      refine take_at (i := 2) (v := ?v90) rfl (by kernel_rfl) (by kernel_rfl) (by kernel_rfl) (fun _ _ _ h => h) (Or.inl ⟨by rfl, ?y90⟩) hHeld ?t90
      case y90 => (intro wx hSw; go_simp <;> with_reducible rfl)
      simp only [Act.put, List.setIfInBounds_toArray, List.set_cons_zero, List.set_cons_succ]
      refine take_at (i := 3) (v := ?v91) rfl (by kernel_rfl) (by kernel_rfl) (by kernel_rfl) (fun _ _ _ h => h) (Or.inl ⟨by rfl, ?y91⟩) hHeld ?t91
      case y91 => (intro wx hSw; go_simp <;> with_reducible rfl)
      simp only [Act.put, List.setIfInBounds_toArray, List.set_cons_zero, List.set_cons_succ]
      refine take_at (i := 4) (v := ?v92) rfl (by kernel_rfl) (by kernel_rfl) (by kernel_rfl) (fun _ _ _ h => h) (Or.inl ⟨by rfl, ?y92⟩) hHeld ?t92
      case y92 => (intro wx hSw; have hc0 : wx.cell? ⟨w.heap.size + 1, 0, none⟩ = some (.int .i64 v.1) := hSw.1.c 0 (of_decide_eq_true rfl); go_simp <;> with_reducible rfl)
      simp only [Act.put, List.setIfInBounds_toArray, List.set_cons_zero, List.set_cons_succ]
      refine take_at (i := 5) (v := ?v93) rfl (by kernel_rfl) (by kernel_rfl) (by kernel_rfl) (fun _ _ _ h => h) (Or.inl ⟨by rfl, ?y93⟩) hHeld ?t93
      case y93 => (intro wx hSw; go_simp <;> with_reducible rfl)
      simp only [Act.put, List.setIfInBounds_toArray, List.set_cons_zero, List.set_cons_succ]
      refine take_at (i := 6) (v := ?v94) rfl (by kernel_rfl) (by kernel_rfl) (by kernel_rfl) (fun _ _ _ h => h) (Or.inl ⟨by rfl, ?y94⟩) hHeld ?t94
      case y94 => (intro wx hSw; go_simp <;> with_reducible rfl)
      simp only [Act.put, List.setIfInBounds_toArray, List.set_cons_zero, List.set_cons_succ]
      refine take_at (i := 7) (v := ?v95) rfl (by kernel_rfl) (by kernel_rfl) (by kernel_rfl) (fun _ _ _ h => h) (Or.inl ⟨by rfl, ?y95⟩) hHeld ?t95
      case y95 => (intro wx hSw; go_simp <;> with_reducible rfl)
      simp only [Act.put, List.setIfInBounds_toArray, List.set_cons_zero, List.set_cons_succ]
      refine take_at (i := 8) (v := ?v96) rfl (by kernel_rfl) (by kernel_rfl) (by kernel_rfl) (fun _ _ _ h => h) (Or.inl ⟨by rfl, ?y96⟩) hHeld ?t96
      case y96 => (intro wx hSw; have hc2 : wx.cell? ⟨w.heap.size, 2, none⟩ = some (.int .i64 d.2.1) := hSw.2.c 2 (of_decide_eq_true rfl); go_simp <;> with_reducible rfl)
      simp only [Act.put, List.setIfInBounds_toArray, List.set_cons_zero, List.set_cons_succ]
      refine take_at (i := 10) (v := ?v97) rfl (by kernel_rfl) (by kernel_rfl) (by kernel_rfl) (fun _ _ _ h => h) (Or.inl ⟨by rfl, ?y97⟩) hHeld ?t97
      case y97 => (intro wx hSw; go_simp <;> with_reducible rfl)
      simp only [Act.put, List.setIfInBounds_toArray, List.set_cons_zero, List.set_cons_succ]
      refine call_at (i := 9) (by kernel_rfl) rfl (fun K hK => ?_)
      go_simp
      refine (rSub_any b r3.2 v.1 d.2.1 _ (f3.alloc _).drew).mono ?_
      rintro e w4 ⟨rfl, f4, k4⟩
      generalize e4 : subS r3.2 v.1 d.2.1 = r4 at f4 ⊢
      have E4 : Hid _ := e4
      clear e4
      have K4 : Kept b w w4 := Kept.trans (K3.al _).drew k4
      have B0_4 : Arr w.heap.size [.bool true, .int .i64 d.1, .int .i64 d.2.1, .int .i64 d.2.2.1, .int .i64 d.2.2.2.1, .int .i64 d.2.2.2.2.1, .int .i64 d.2.2.2.2.2.1, .int .i64 d.2.2.2.2.2.2] w4 := (B0_3.alloc _).drew.kept k4 (Nat.ne_of_gt y1_BF)
      have B1_4 : Arr (w.heap.size + 1) [.int .i64 v.1, .int .i64 v.2.1, .int .i64 v.2.2] w4 := (B1_3.alloc _).drew.kept k4 (Nat.ne_of_gt y2_BF)
      have B2_4 : Arr (w.heap.size + 1 + 1) [.bool false, .int .i64 0, .int .i64 0, .int .i64 0, .int .i64 0, .int .i64 0, .int .i64 0, .int .i64 0] w4 := (B2_3.alloc _).drew.kept k4 (Nat.ne_of_gt y3_BF)
      have B3_4 : Arr w3.heap.size [.bool true, .int .i64 k, .int .i64 v.1, .int .i64 v.2.1, .int .i64 v.2.2, .int .i64 0, .int .i64 0, .int .i64 0] w4 := (Arr_at _ _ [.bool true, .int .i64 k, .int .i64 v.1, .int .i64 v.2.1, .int .i64 v.2.2, .int .i64 0, .int .i64 0, .int .i64 0] _ (by simp)).drew.kept k4 (Nat.ne_of_gt y4_BF)
      have z4 := B3_4.lies
      clear hHeld
      refine hK.out _ _ ⟨B1_4, B0_4⟩ (fun hHeld => ?_)
      clear hK K K3 f3 B0_3 B1_3 B2_3 k4
      refine call_at (i := 11) (by kernel_rfl) rfl (fun K hK => ?_)
      go_simp
      refine (rPart_any b r4.2 r4.1 1000 t _ f4).mono ?_
      rintro e w5 ⟨rfl, f5, k5⟩
      generalize e5 : partS r4.2 r4.1 1000 t = r5 at f5 ⊢
      have E5 : Hid _ := e5
      clear e5
      have K5 : Kept b w w5 := Kept.trans K4 k5
      have B0_5 : Arr w.heap.size [.bool true, .int .i64 d.1, .int .i64 d.2.1, .int .i64 d.2.2.1, .int .i64 d.2.2.2.1, .int .i64 d.2.2.2.2.1, .int .i64 d.2.2.2.2.2.1, .int .i64 d.2.2.2.2.2.2] w5 := B0_4.kept k5 (Nat.ne_of_gt y1_BF)
      have B1_5 : Arr (w.heap.size + 1) [.int .i64 v.1, .int .i64 v.2.1, .int .i64 v.2.2] w5 := B1_4.kept k5 (Nat.ne_of_gt y2_BF)
      have B2_5 : Arr (w.heap.size + 1 + 1) [.bool false, .int .i64 0, .int .i64 0, .int .i64 0, .int .i64 0, .int .i64 0, .int .i64 0, .int .i64 0] w5 := B2_4.kept k5 (Nat.ne_of_gt y3_BF)
      have B3_5 : Arr w3.heap.size [.bool true, .int .i64 k, .int .i64 v.1, .int .i64 v.2.1, .int .i64 v.2.2, .int .i64 0, .int .i64 0, .int .i64 0] w5 := B3_4.kept k5 (Nat.ne_of_gt y4_BF)
      have z5 := B3_5.lies
      clear hHeld
      refine hK.out _ _ ⟨B1_5, B0_5⟩ (fun hHeld => ?_)
      clear hK K K4 f4 B0_4 B1_4 B2_4 B3_4 k5
      refine take_at (i := 12) (v := ?v98) rfl (by kernel_rfl) (by kernel_rfl) (by kernel_rfl) (fun _ _ _ h => h) (Or.inl ⟨by rfl, ?y98⟩) hHeld ?t98
      case y98 => (intro wx hSw; go_simp <;> with_reducible rfl)
      simp only [Act.put, List.setIfInBounds_toArray, List.set_cons_zero, List.set_cons_succ]
      refine wpAnyH_done (by kernel_rfl) ?_ _
      clear hHeld
      go_wp2_with fail
      refine wp_region_held_drew (S := fun w' => Arr w.heap.size [.bool true, .int .i64 d.1, .int .i64 d.2.1, .int .i64 d.2.2.1, .int .i64 d.2.2.2.1, .int .i64 d.2.2.2.2.1, .int .i64 d.2.2.2.2.2.1, .int .i64 d.2.2.2.2.2.2] w') (by kernel_rfl) B0_5.drew (fun hHeld => ?_)
      refine take_at (i := 0) (v := ?v99) rfl (by kernel_rfl) (by kernel_rfl) (by kernel_rfl) (fun _ _ _ h => h) (Or.inl ⟨by rfl, ?y99⟩) hHeld ?t99
      case y99 => (intro wx hSw; go_simp <;> with_reducible rfl)
      simp only [Act.put, List.setIfInBounds_toArray, List.set_cons_zero, List.set_cons_succ]
      refine take_at (i := 1) (v := ?v100) rfl (by kernel_rfl) (by kernel_rfl) (by kernel_rfl) (fun _ _ _ h => h) (Or.inl ⟨by rfl, ?y100⟩) hHeld ?t100
      case y100 => (intro wx hSw; go_simp <;> with_reducible rfl)
      simp only [Act.put, List.setIfInBounds_toArray, List.set_cons_zero, List.set_cons_succ]
      refine take_at (i := 2) (v := ?v101) rfl (by kernel_rfl) (by kernel_rfl) (by kernel_rfl) (fun _ _ _ h => h) (Or.inl ⟨by rfl, ?y101⟩) hHeld ?t101
      case y101 => (intro wx hSw; go_simp <;> with_reducible rfl)
      simp only [Act.put, List.setIfInBounds_toArray, List.set_cons_zero, List.set_cons_succ]
      refine take_at (i := 3) (v := ?v102) rfl (by kernel_rfl) (by kernel_rfl) (by kernel_rfl) (fun _ _ _ h => h) (Or.inl ⟨by rfl, ?y102⟩) hHeld ?t102
      case y102 => (intro wx hSw; go_simp <;> with_reducible rfl)
      simp only [Act.put, List.setIfInBounds_toArray, List.set_cons_zero, List.set_cons_succ]
      refine take_at (i := 4) (v := ?v103) rfl (by kernel_rfl) (by kernel_rfl) (by kernel_rfl) (fun _ _ _ h => h) (Or.inl ⟨by rfl, ?y103⟩) hHeld ?t103
      case y103 => (intro wx hSw; go_simp <;> with_reducible rfl)
      simp only [Act.put, List.setIfInBounds_toArray, List.set_cons_zero, List.set_cons_succ]
      refine take_at (i := 5) (v := ?v104) rfl (by kernel_rfl) (by kernel_rfl) (by kernel_rfl) (fun _ _ _ h => h) (Or.inl ⟨by rfl, ?y104⟩) hHeld ?t104
      case y104 => (intro wx hSw; have hc5 : wx.cell? ⟨w.heap.size, 5, none⟩ = some (.int .i64 d.2.2.2.2.1) := hSw.c 5 (of_decide_eq_true rfl); go_simp <;> with_reducible rfl)
      simp only [Act.put, List.setIfInBounds_toArray, List.set_cons_zero, List.set_cons_succ]
      refine take_at (i := 6) (v := ?v105) rfl (by kernel_rfl) (by kernel_rfl) (by kernel_rfl) (fun _ _ _ h => h) (Or.inl ⟨by rfl, ?y105⟩) hHeld ?t105
      case y105 => (intro wx hSw; go_simp <;> with_reducible rfl)
      simp only [Act.put, List.setIfInBounds_toArray, List.set_cons_zero, List.set_cons_succ]
      refine take_at (i := 7) (v := ?v106) rfl (by kernel_rfl) (by kernel_rfl) (by kernel_rfl) (fun _ _ _ h => h) (Or.inl ⟨by rfl, ?y106⟩) hHeld ?t106
      case y106 => (intro wx hSw; go_simp <;> with_reducible rfl)
      simp only [Act.put, List.setIfInBounds_toArray, List.set_cons_zero, List.set_cons_succ]
      refine take_at (i := 8) (v := ?v107) rfl (by kernel_rfl) (by kernel_rfl) (by kernel_rfl) (fun _ _ _ h => h) (Or.inl ⟨by rfl, ?y107⟩) hHeld ?t107
      case y107 => (intro wx hSw; go_simp <;> with_reducible rfl)
      simp only [Act.put, List.setIfInBounds_toArray, List.set_cons_zero, List.set_cons_succ]
      refine take_at (i := 9) (v := ?v108) rfl (by kernel_rfl) (by kernel_rfl) (by kernel_rfl) (fun _ _ _ h => h) (Or.inl ⟨by rfl, ?y108⟩) hHeld ?t108
      case y108 => (intro wx hSw; go_simp <;> with_reducible rfl)
      simp only [Act.put, List.setIfInBounds_toArray, List.set_cons_zero, List.set_cons_succ]
      refine take_at (i := 10) (v := ?v109) rfl (by kernel_rfl) (by kernel_rfl) (by kernel_rfl) (fun _ _ _ h => h) (Or.inl ⟨by rfl, ?y109⟩) hHeld ?t109
      case y109 => (intro wx hSw; go_simp <;> with_reducible rfl)
      simp only [Act.put, List.setIfInBounds_toArray, List.set_cons_zero, List.set_cons_succ]
      refine take_at (i := 11) (v := ?v110) rfl (by kernel_rfl) (by kernel_rfl) (by kernel_rfl) (fun _ _ _ h => h) (Or.inl ⟨by rfl, ?y110⟩) hHeld ?t110
      case y110 => (intro wx hSw; go_simp <;> with_reducible rfl)
      simp only [Act.put, List.setIfInBounds_toArray, List.set_cons_zero, List.set_cons_succ]
      refine take_at (i := 12) (v := ?v111) rfl (by kernel_rfl) (by kernel_rfl) (by kernel_rfl) (fun _ _ _ h => h) (Or.inl ⟨by rfl, ?y111⟩) hHeld ?t111
      case y111 => (intro wx hSw; have hc5 : wx.cell? ⟨w.heap.size, 5, none⟩ = some (.int .i64 d.2.2.2.2.1) := hSw.c 5 (of_decide_eq_true rfl); go_simp <;> with_reducible rfl)
      simp only [Act.put, List.setIfInBounds_toArray, List.set_cons_zero, List.set_cons_succ]
      refine take_at (i := 14) (v := ?v112) rfl (by kernel_rfl) (by kernel_rfl) (by kernel_rfl) (fun _ _ _ h => h) (Or.inl ⟨by rfl, ?y112⟩) hHeld ?t112
      case y112 => (intro wx hSw; go_simp <;> with_reducible rfl)
      simp only [Act.put, List.setIfInBounds_toArray, List.set_cons_zero, List.set_cons_succ]
      refine take_at (i := 15) (v := ?v113) rfl (by kernel_rfl) (by kernel_rfl) (by kernel_rfl) (fun _ _ _ h => h) (Or.inl ⟨by rfl, ?y113⟩) hHeld ?t113
      case y113 => (intro wx hSw; go_simp <;> with_reducible rfl)
      simp only [Act.put, List.setIfInBounds_toArray, List.set_cons_zero, List.set_cons_succ]
      refine take_at (i := 16) (v := ?v114) rfl (by kernel_rfl) (by kernel_rfl) (by kernel_rfl) (fun _ _ _ h => h) (Or.inl ⟨by rfl, ?y114⟩) hHeld ?t114
      case y114 => (intro wx hSw; go_simp <;> with_reducible rfl)
      simp only [Act.put, List.setIfInBounds_toArray, List.set_cons_zero, List.set_cons_succ]
      rw [IntWalk.i64_in (t + 2000) (by omega)]
      refine take_at (i := 19) (v := ?v115) rfl (by kernel_rfl) (by kernel_rfl) (by kernel_rfl) (fun _ _ _ h => h) (Or.inl ⟨by rfl, ?y115⟩) hHeld ?t115
      case y115 => (intro wx hSw; go_simp <;> with_reducible rfl)
      simp only [Act.put, List.setIfInBounds_toArray, List.set_cons_zero, List.set_cons_succ]
      refine call_at (i := 13) (by kernel_rfl) rfl (fun K hK => ?_)
      go_simp
      refine (rSub_any b r5.2 r5.1 d.2.2.2.2.1 _ f5.drew).mono ?_
      rintro e w6 ⟨rfl, f6, k6⟩
      generalize e6 : subS r5.2 r5.1 d.2.2.2.2.1 = r6 at f6 ⊢
      have E6 : Hid _ := e6
      clear e6
      have K6 : Kept b w w6 := Kept.trans K5.drew k6
      have B0_6 : Arr w.heap.size [.bool true, .int .i64 d.1, .int .i64 d.2.1, .int .i64 d.2.2.1, .int .i64 d.2.2.2.1, .int .i64 d.2.2.2.2.1, .int .i64 d.2.2.2.2.2.1, .int .i64 d.2.2.2.2.2.2] w6 := B0_5.drew.kept k6 (Nat.ne_of_gt y1_BF)
      have B1_6 : Arr (w.heap.size + 1) [.int .i64 v.1, .int .i64 v.2.1, .int .i64 v.2.2] w6 := B1_5.drew.kept k6 (Nat.ne_of_gt y2_BF)
      have B2_6 : Arr (w.heap.size + 1 + 1) [.bool false, .int .i64 0, .int .i64 0, .int .i64 0, .int .i64 0, .int .i64 0, .int .i64 0, .int .i64 0] w6 := B2_5.drew.kept k6 (Nat.ne_of_gt y3_BF)
      have B3_6 : Arr w3.heap.size [.bool true, .int .i64 k, .int .i64 v.1, .int .i64 v.2.1, .int .i64 v.2.2, .int .i64 0, .int .i64 0, .int .i64 0] w6 := B3_5.drew.kept k6 (Nat.ne_of_gt y4_BF)
      have z6 := B3_6.lies
      clear hHeld
      refine hK.out _ _ B0_6 (fun hHeld => ?_)
      clear hK K K5 f5 B0_5 B1_5 B2_5 B3_5 k6
      refine call_at (i := 17) (by kernel_rfl) rfl (fun K hK => ?_)
      go_simp
      refine (rPart_any b r6.2 r6.1 t (t + 2000) _ f6).mono ?_
      rintro e w7 ⟨rfl, f7, k7⟩
      generalize e7 : partS r6.2 r6.1 t (t + 2000) = r7 at f7 ⊢
      have E7 : Hid _ := e7
      clear e7
      have K7 : Kept b w w7 := Kept.trans K6 k7
      have B0_7 : Arr w.heap.size [.bool true, .int .i64 d.1, .int .i64 d.2.1, .int .i64 d.2.2.1, .int .i64 d.2.2.2.1, .int .i64 d.2.2.2.2.1, .int .i64 d.2.2.2.2.2.1, .int .i64 d.2.2.2.2.2.2] w7 := B0_6.kept k7 (Nat.ne_of_gt y1_BF)
      have B1_7 : Arr (w.heap.size + 1) [.int .i64 v.1, .int .i64 v.2.1, .int .i64 v.2.2] w7 := B1_6.kept k7 (Nat.ne_of_gt y2_BF)
      have B2_7 : Arr (w.heap.size + 1 + 1) [.bool false, .int .i64 0, .int .i64 0, .int .i64 0, .int .i64 0, .int .i64 0, .int .i64 0, .int .i64 0] w7 := B2_6.kept k7 (Nat.ne_of_gt y3_BF)
      have B3_7 : Arr w3.heap.size [.bool true, .int .i64 k, .int .i64 v.1, .int .i64 v.2.1, .int .i64 v.2.2, .int .i64 0, .int .i64 0, .int .i64 0] w7 := B3_6.kept k7 (Nat.ne_of_gt y4_BF)
      have z7 := B3_7.lies
      clear hHeld
      refine hK.out _ _ B0_7 (fun hHeld => ?_)
      clear hK K K6 f6 B0_6 B1_6 B2_6 B3_6 k7
      refine call_at (i := 18) (by kernel_rfl) rfl (fun K hK => ?_)
      go_simp
      refine (rAdd_any b r7.2 d.2.2.2.2.1 r7.1 _ f7).mono ?_
      rintro e w8 ⟨rfl, f8, k8⟩
      generalize e8 : addS r7.2 d.2.2.2.2.1 r7.1 = r8 at f8 ⊢
      have E8 : Hid _ := e8
      clear e8
      have K8 : Kept b w w8 := Kept.trans K7 k8
      have B0_8 : Arr w.heap.size [.bool true, .int .i64 d.1, .int .i64 d.2.1, .int .i64 d.2.2.1, .int .i64 d.2.2.2.1, .int .i64 d.2.2.2.2.1, .int .i64 d.2.2.2.2.2.1, .int .i64 d.2.2.2.2.2.2] w8 := B0_7.kept k8 (Nat.ne_of_gt y1_BF)
      have B1_8 : Arr (w.heap.size + 1) [.int .i64 v.1, .int .i64 v.2.1, .int .i64 v.2.2] w8 := B1_7.kept k8 (Nat.ne_of_gt y2_BF)
      have B2_8 : Arr (w.heap.size + 1 + 1) [.bool false, .int .i64 0, .int .i64 0, .int .i64 0, .int .i64 0, .int .i64 0, .int .i64 0, .int .i64 0] w8 := B2_7.kept k8 (Nat.ne_of_gt y3_BF)
      have B3_8 : Arr w3.heap.size [.bool true, .int .i64 k, .int .i64 v.1, .int .i64 v.2.1, .int .i64 v.2.2, .int .i64 0, .int .i64 0, .int .i64 0] w8 := B3_7.kept k8 (Nat.ne_of_gt y4_BF)
      have z8 := B3_8.lies
      clear hHeld
      refine hK.out _ _ B0_8 (fun hHeld => ?_)
      clear hK K K7 f7 B0_7 B1_7 B2_7 B3_7 k8
      refine take_at (i := 20) (v := ?v116) rfl (by kernel_rfl) (by kernel_rfl) (by kernel_rfl) (fun _ _ _ h => h) (Or.inl ⟨by rfl, ?y116⟩) hHeld ?t116
      case y116 => (intro wx hSw; go_simp <;> with_reducible rfl)
      simp only [Act.put, List.setIfInBounds_toArray, List.set_cons_zero, List.set_cons_succ]
      refine call_at (i := 21) (by kernel_rfl) rfl (fun K hK => ?_)
      have c12_B3_5 : w8.cell? ⟨w3.heap.size, 5, none⟩ = some (.int .i64 0) := B3_8.c 5 (of_decide_eq_true rfl)
      have g12_B3_5 := B3_8.f 5 (of_decide_eq_true rfl)
      go_simp
      clear hHeld
      refine hK.out _ _ (B0_8.new w3.heap.size 5 (Nat.ne_of_lt y4_B0) (.int .i64 r8.1)) (fun hHeld => ?_)
      clear hK K c12_B3_5 g12_B3_5
      refine wpAnyH_done (by kernel_rfl) ?_ _
      clear hHeld
      go_wp2_with fail
      refine rounds_letter (S := fun w' => Kept b w w' ∧ Fl b r8.2 w' ∧ Arr w.heap.size [.bool true, .int .i64 d.1, .int .i64 d.2.1, .int .i64 d.2.2.1, .int .i64 d.2.2.2.1, .int .i64 d.2.2.2.2.1, .int .i64 d.2.2.2.2.2.1, .int .i64 d.2.2.2.2.2.2] w' ∧ Arr (w.heap.size + 1) [.int .i64 v.1, .int .i64 v.2.1, .int .i64 v.2.2] w' ∧ Arr (w.heap.size + 1 + 1) [.bool false, .int .i64 0, .int .i64 0, .int .i64 0, .int .i64 0, .int .i64 0, .int .i64 0, .int .i64 0] w' ∧ Arr w3.heap.size [.bool true, .int .i64 k, .int .i64 v.1, .int .i64 v.2.1, .int .i64 v.2.2, .int .i64 r8.1, .int .i64 0, .int .i64 0] w') ⟨(K8.new _ _ (by omega) _), (f8.new w3.heap.size 5 (Nat.ne_of_lt y4_BF) (.int .i64 r8.1)), (B0_8.new w3.heap.size 5 (Nat.ne_of_lt y4_B0) (.int .i64 r8.1)), (B1_8.new w3.heap.size 5 (Nat.ne_of_lt y4_B1) (.int .i64 r8.1)), (B2_8.new w3.heap.size 5 (Nat.ne_of_lt y4_B2) (.int .i64 r8.1)), (B3_8.put 5 (of_decide_eq_true rfl) (.int .i64 r8.1) [.bool true, .int .i64 k, .int .i64 v.1, .int .i64 v.2.1, .int .i64 v.2.2, .int .i64 r8.1, .int .i64 0, .int .i64 0] rfl)⟩ ?_
      rintro w9 ⟨K9, BF_9, B0_9, B1_9, B2_9, B3_9⟩
      have z9 := B3_9.lies
      clear K8 f8 B0_8 B1_8 B2_8 B3_8
      rw [rounds_succ]
      go_wp2_with fail
      refine wp_region_held_drew (S := fun w' => Arr (w.heap.size + 1) [.int .i64 v.1, .int .i64 v.2.1, .int .i64 v.2.2] w' ∧ Arr w.heap.size [.bool true, .int .i64 d.1, .int .i64 d.2.1, .int .i64 d.2.2.1, .int .i64 d.2.2.2.1, .int .i64 d.2.2.2.2.1, .int .i64 d.2.2.2.2.2.1, .int .i64 d.2.2.2.2.2.2] w') (by kernel_rfl) ⟨B1_9.drew, B0_9.drew⟩ (fun hHeld => ?_)
      refine take_at (i := 0) (v := ?v117) rfl (by kernel_rfl) (by kernel_rfl) (by kernel_rfl) (fun _ _ _ h => h) (Or.inl ⟨by rfl, ?y117⟩) hHeld ?t117
      case y117 => (intro wx hSw; go_simp <;> with_reducible rfl)
      simp only [Act.put, List.setIfInBounds_toArray, List.set_cons_zero, List.set_cons_succ]
      refine take_at (i := 1) (v := ?v118) rfl (by kernel_rfl) (by kernel_rfl) (by kernel_rfl) (fun _ _ _ h => h) (Or.inl ⟨by rfl, ?y118⟩) hHeld ?t118
      case y118 => (intro wx hSw; go_simp <;> with_reducible rfl)
      simp only [Act.put, List.setIfInBounds_toArray, List.set_cons_zero, List.set_cons_succ]
      refine take_at (i := 2) (v := ?v119) rfl (by kernel_rfl) (by kernel_rfl) (by kernel_rfl) (fun _ _ _ h => h) (Or.inl ⟨by rfl, ?y119⟩) hHeld ?t119
      case y119 => (intro wx hSw; go_simp <;> with_reducible rfl)
      simp only [Act.put, List.setIfInBounds_toArray, List.set_cons_zero, List.set_cons_succ]
      refine take_at (i := 3) (v := ?v120) rfl (by kernel_rfl) (by kernel_rfl) (by kernel_rfl) (fun _ _ _ h => h) (Or.inl ⟨by rfl, ?y120⟩) hHeld ?t120
      case y120 => (intro wx hSw; go_simp <;> with_reducible rfl)
      simp only [Act.put, List.setIfInBounds_toArray, List.set_cons_zero, List.set_cons_succ]
      refine take_at (i := 4) (v := ?v121) rfl (by kernel_rfl) (by kernel_rfl) (by kernel_rfl) (fun _ _ _ h => h) (Or.inl ⟨by rfl, ?y121⟩) hHeld ?t121
      case y121 => (intro wx hSw; have hc1 : wx.cell? ⟨w.heap.size + 1, 1, none⟩ = some (.int .i64 v.2.1) := hSw.1.c 1 (of_decide_eq_true rfl); go_simp <;> with_reducible rfl)
      simp only [Act.put, List.setIfInBounds_toArray, List.set_cons_zero, List.set_cons_succ]
      refine take_at (i := 5) (v := ?v122) rfl (by kernel_rfl) (by kernel_rfl) (by kernel_rfl) (fun _ _ _ h => h) (Or.inl ⟨by rfl, ?y122⟩) hHeld ?t122
      case y122 => (intro wx hSw; go_simp <;> with_reducible rfl)
      simp only [Act.put, List.setIfInBounds_toArray, List.set_cons_zero, List.set_cons_succ]
      refine take_at (i := 6) (v := ?v123) rfl (by kernel_rfl) (by kernel_rfl) (by kernel_rfl) (fun _ _ _ h => h) (Or.inl ⟨by rfl, ?y123⟩) hHeld ?t123
      case y123 => (intro wx hSw; go_simp <;> with_reducible rfl)
      simp only [Act.put, List.setIfInBounds_toArray, List.set_cons_zero, List.set_cons_succ]
      refine take_at (i := 7) (v := ?v124) rfl (by kernel_rfl) (by kernel_rfl) (by kernel_rfl) (fun _ _ _ h => h) (Or.inl ⟨by rfl, ?y124⟩) hHeld ?t124
      case y124 => (intro wx hSw; go_simp <;> with_reducible rfl)
      simp only [Act.put, List.setIfInBounds_toArray, List.set_cons_zero, List.set_cons_succ]
      refine take_at (i := 8) (v := ?v125) rfl (by kernel_rfl) (by kernel_rfl) (by kernel_rfl) (fun _ _ _ h => h) (Or.inl ⟨by rfl, ?y125⟩) hHeld ?t125
      case y125 => (intro wx hSw; have hc3 : wx.cell? ⟨w.heap.size, 3, none⟩ = some (.int .i64 d.2.2.1) := hSw.2.c 3 (of_decide_eq_true rfl); go_simp <;> with_reducible rfl)
      simp only [Act.put, List.setIfInBounds_toArray, List.set_cons_zero, List.set_cons_succ]
      refine take_at (i := 10) (v := ?v126) rfl (by kernel_rfl) (by kernel_rfl) (by kernel_rfl) (fun _ _ _ h => h) (Or.inl ⟨by rfl, ?y126⟩) hHeld ?t126
      case y126 => (intro wx hSw; go_simp <;> with_reducible rfl)
      simp only [Act.put, List.setIfInBounds_toArray, List.set_cons_zero, List.set_cons_succ]
      refine call_at (i := 9) (by kernel_rfl) rfl (fun K hK => ?_)
      go_simp
      refine (rSub_any b r8.2 v.2.1 d.2.2.1 _ BF_9.drew).mono ?_
      rintro e w10 ⟨rfl, f10, k10⟩
      generalize e10 : subS r8.2 v.2.1 d.2.2.1 = r10 at f10 ⊢
      have E10 : Hid _ := e10
      clear e10
      have K10 : Kept b w w10 := Kept.trans K9.drew k10
      have B0_10 : Arr w.heap.size [.bool true, .int .i64 d.1, .int .i64 d.2.1, .int .i64 d.2.2.1, .int .i64 d.2.2.2.1, .int .i64 d.2.2.2.2.1, .int .i64 d.2.2.2.2.2.1, .int .i64 d.2.2.2.2.2.2] w10 := B0_9.drew.kept k10 (Nat.ne_of_gt y1_BF)
      have B1_10 : Arr (w.heap.size + 1) [.int .i64 v.1, .int .i64 v.2.1, .int .i64 v.2.2] w10 := B1_9.drew.kept k10 (Nat.ne_of_gt y2_BF)
      have B2_10 : Arr (w.heap.size + 1 + 1) [.bool false, .int .i64 0, .int .i64 0, .int .i64 0, .int .i64 0, .int .i64 0, .int .i64 0, .int .i64 0] w10 := B2_9.drew.kept k10 (Nat.ne_of_gt y3_BF)
      have B3_10 : Arr w3.heap.size [.bool true, .int .i64 k, .int .i64 v.1, .int .i64 v.2.1, .int .i64 v.2.2, .int .i64 r8.1, .int .i64 0, .int .i64 0] w10 := B3_9.drew.kept k10 (Nat.ne_of_gt y4_BF)
      have z10 := B3_10.lies
      clear hHeld
      refine hK.out _ _ ⟨B1_10, B0_10⟩ (fun hHeld => ?_)
      clear hK K K9 BF_9 B0_9 B1_9 B2_9 B3_9 k10
      refine call_at (i := 11) (by kernel_rfl) rfl (fun K hK => ?_)
      go_simp
      refine (rPart_any b r10.2 r10.1 1000 t _ f10).mono ?_
      rintro e w11 ⟨rfl, f11, k11⟩
      generalize e11 : partS r10.2 r10.1 1000 t = r11 at f11 ⊢
      have E11 : Hid _ := e11
      clear e11
      have K11 : Kept b w w11 := Kept.trans K10 k11
      have B0_11 : Arr w.heap.size [.bool true, .int .i64 d.1, .int .i64 d.2.1, .int .i64 d.2.2.1, .int .i64 d.2.2.2.1, .int .i64 d.2.2.2.2.1, .int .i64 d.2.2.2.2.2.1, .int .i64 d.2.2.2.2.2.2] w11 := B0_10.kept k11 (Nat.ne_of_gt y1_BF)
      have B1_11 : Arr (w.heap.size + 1) [.int .i64 v.1, .int .i64 v.2.1, .int .i64 v.2.2] w11 := B1_10.kept k11 (Nat.ne_of_gt y2_BF)
      have B2_11 : Arr (w.heap.size + 1 + 1) [.bool false, .int .i64 0, .int .i64 0, .int .i64 0, .int .i64 0, .int .i64 0, .int .i64 0, .int .i64 0] w11 := B2_10.kept k11 (Nat.ne_of_gt y3_BF)
      have B3_11 : Arr w3.heap.size [.bool true, .int .i64 k, .int .i64 v.1, .int .i64 v.2.1, .int .i64 v.2.2, .int .i64 r8.1, .int .i64 0, .int .i64 0] w11 := B3_10.kept k11 (Nat.ne_of_gt y4_BF)
      have z11 := B3_11.lies
      clear hHeld
      refine hK.out _ _ ⟨B1_11, B0_11⟩ (fun hHeld => ?_)
      clear hK K K10 f10 B0_10 B1_10 B2_10 B3_10 k11
      refine take_at (i := 12) (v := ?v127) rfl (by kernel_rfl) (by kernel_rfl) (by kernel_rfl) (fun _ _ _ h => h) (Or.inl ⟨by rfl, ?y127⟩) hHeld ?t127
      case y127 => (intro wx hSw; go_simp <;> with_reducible rfl)
      simp only [Act.put, List.setIfInBounds_toArray, List.set_cons_zero, List.set_cons_succ]
      refine wpAnyH_done (by kernel_rfl) ?_ _
      clear hHeld
      go_wp2_with fail
      refine wp_region_held_drew (S := fun w' => Arr w.heap.size [.bool true, .int .i64 d.1, .int .i64 d.2.1, .int .i64 d.2.2.1, .int .i64 d.2.2.2.1, .int .i64 d.2.2.2.2.1, .int .i64 d.2.2.2.2.2.1, .int .i64 d.2.2.2.2.2.2] w') (by kernel_rfl) B0_11.drew (fun hHeld => ?_)
      refine take_at (i := 0) (v := ?v128) rfl (by kernel_rfl) (by kernel_rfl) (by kernel_rfl) (fun _ _ _ h => h) (Or.inl ⟨by rfl, ?y128⟩) hHeld ?t128
      case y128 => (intro wx hSw; go_simp <;> with_reducible rfl)
      simp only [Act.put, List.setIfInBounds_toArray, List.set_cons_zero, List.set_cons_succ]
      refine take_at (i := 1) (v := ?v129) rfl (by kernel_rfl) (by kernel_rfl) (by kernel_rfl) (fun _ _ _ h => h) (Or.inl ⟨by rfl, ?y129⟩) hHeld ?t129
      case y129 => (intro wx hSw; go_simp <;> with_reducible rfl)
      simp only [Act.put, List.setIfInBounds_toArray, List.set_cons_zero, List.set_cons_succ]
      refine take_at (i := 2) (v := ?v130) rfl (by kernel_rfl) (by kernel_rfl) (by kernel_rfl) (fun _ _ _ h => h) (Or.inl ⟨by rfl, ?y130⟩) hHeld ?t130
      case y130 => (intro wx hSw; go_simp <;> with_reducible rfl)
      simp only [Act.put, List.setIfInBounds_toArray, List.set_cons_zero, List.set_cons_succ]
      refine take_at (i := 3) (v := ?v131) rfl (by kernel_rfl) (by kernel_rfl) (by kernel_rfl) (fun _ _ _ h => h) (Or.inl ⟨by rfl, ?y131⟩) hHeld ?t131
      case y131 => (intro wx hSw; go_simp <;> with_reducible rfl)
      simp only [Act.put, List.setIfInBounds_toArray, List.set_cons_zero, List.set_cons_succ]
      refine take_at (i := 4) (v := ?v132) rfl (by kernel_rfl) (by kernel_rfl) (by kernel_rfl) (fun _ _ _ h => h) (Or.inl ⟨by rfl, ?y132⟩) hHeld ?t132
      case y132 => (intro wx hSw; go_simp <;> with_reducible rfl)
      simp only [Act.put, List.setIfInBounds_toArray, List.set_cons_zero, List.set_cons_succ]
      refine take_at (i := 5) (v := ?v133) rfl (by kernel_rfl) (by kernel_rfl) (by kernel_rfl) (fun _ _ _ h => h) (Or.inl ⟨by rfl, ?y133⟩) hHeld ?t133
      case y133 => (intro wx hSw; have hc6 : wx.cell? ⟨w.heap.size, 6, none⟩ = some (.int .i64 d.2.2.2.2.2.1) := hSw.c 6 (of_decide_eq_true rfl); go_simp <;> with_reducible rfl)
      simp only [Act.put, List.setIfInBounds_toArray, List.set_cons_zero, List.set_cons_succ]
      refine take_at (i := 6) (v := ?v134) rfl (by kernel_rfl) (by kernel_rfl) (by kernel_rfl) (fun _ _ _ h => h) (Or.inl ⟨by rfl, ?y134⟩) hHeld ?t134
      case y134 => (intro wx hSw; go_simp <;> with_reducible rfl)
      simp only [Act.put, List.setIfInBounds_toArray, List.set_cons_zero, List.set_cons_succ]
      refine take_at (i := 7) (v := ?v135) rfl (by kernel_rfl) (by kernel_rfl) (by kernel_rfl) (fun _ _ _ h => h) (Or.inl ⟨by rfl, ?y135⟩) hHeld ?t135
      case y135 => (intro wx hSw; go_simp <;> with_reducible rfl)
      simp only [Act.put, List.setIfInBounds_toArray, List.set_cons_zero, List.set_cons_succ]
      refine take_at (i := 8) (v := ?v136) rfl (by kernel_rfl) (by kernel_rfl) (by kernel_rfl) (fun _ _ _ h => h) (Or.inl ⟨by rfl, ?y136⟩) hHeld ?t136
      case y136 => (intro wx hSw; go_simp <;> with_reducible rfl)
      simp only [Act.put, List.setIfInBounds_toArray, List.set_cons_zero, List.set_cons_succ]
      refine take_at (i := 9) (v := ?v137) rfl (by kernel_rfl) (by kernel_rfl) (by kernel_rfl) (fun _ _ _ h => h) (Or.inl ⟨by rfl, ?y137⟩) hHeld ?t137
      case y137 => (intro wx hSw; go_simp <;> with_reducible rfl)
      simp only [Act.put, List.setIfInBounds_toArray, List.set_cons_zero, List.set_cons_succ]
      refine take_at (i := 10) (v := ?v138) rfl (by kernel_rfl) (by kernel_rfl) (by kernel_rfl) (fun _ _ _ h => h) (Or.inl ⟨by rfl, ?y138⟩) hHeld ?t138
      case y138 => (intro wx hSw; go_simp <;> with_reducible rfl)
      simp only [Act.put, List.setIfInBounds_toArray, List.set_cons_zero, List.set_cons_succ]
      refine take_at (i := 11) (v := ?v139) rfl (by kernel_rfl) (by kernel_rfl) (by kernel_rfl) (fun _ _ _ h => h) (Or.inl ⟨by rfl, ?y139⟩) hHeld ?t139
      case y139 => (intro wx hSw; go_simp <;> with_reducible rfl)
      simp only [Act.put, List.setIfInBounds_toArray, List.set_cons_zero, List.set_cons_succ]
      refine take_at (i := 12) (v := ?v140) rfl (by kernel_rfl) (by kernel_rfl) (by kernel_rfl) (fun _ _ _ h => h) (Or.inl ⟨by rfl, ?y140⟩) hHeld ?t140
      case y140 => (intro wx hSw; have hc6 : wx.cell? ⟨w.heap.size, 6, none⟩ = some (.int .i64 d.2.2.2.2.2.1) := hSw.c 6 (of_decide_eq_true rfl); go_simp <;> with_reducible rfl)
      simp only [Act.put, List.setIfInBounds_toArray, List.set_cons_zero, List.set_cons_succ]
      refine take_at (i := 14) (v := ?v141) rfl (by kernel_rfl) (by kernel_rfl) (by kernel_rfl) (fun _ _ _ h => h) (Or.inl ⟨by rfl, ?y141⟩) hHeld ?t141
      case y141 => (intro wx hSw; go_simp <;> with_reducible rfl)
      simp only [Act.put, List.setIfInBounds_toArray, List.set_cons_zero, List.set_cons_succ]
      refine take_at (i := 15) (v := ?v142) rfl (by kernel_rfl) (by kernel_rfl) (by kernel_rfl) (fun _ _ _ h => h) (Or.inl ⟨by rfl, ?y142⟩) hHeld ?t142
      case y142 => (intro wx hSw; go_simp <;> with_reducible rfl)
      simp only [Act.put, List.setIfInBounds_toArray, List.set_cons_zero, List.set_cons_succ]
      refine take_at (i := 16) (v := ?v143) rfl (by kernel_rfl) (by kernel_rfl) (by kernel_rfl) (fun _ _ _ h => h) (Or.inl ⟨by rfl, ?y143⟩) hHeld ?t143
      case y143 => (intro wx hSw; go_simp <;> with_reducible rfl)
      simp only [Act.put, List.setIfInBounds_toArray, List.set_cons_zero, List.set_cons_succ]
      rw [IntWalk.i64_in (t + 2000) (by omega)]
      refine take_at (i := 19) (v := ?v144) rfl (by kernel_rfl) (by kernel_rfl) (by kernel_rfl) (fun _ _ _ h => h) (Or.inl ⟨by rfl, ?y144⟩) hHeld ?t144
      case y144 => (intro wx hSw; go_simp <;> with_reducible rfl)
      simp only [Act.put, List.setIfInBounds_toArray, List.set_cons_zero, List.set_cons_succ]
      refine call_at (i := 13) (by kernel_rfl) rfl (fun K hK => ?_)
      go_simp
      refine (rSub_any b r11.2 r11.1 d.2.2.2.2.2.1 _ f11.drew).mono ?_
      rintro e w12 ⟨rfl, f12, k12⟩
      generalize e12 : subS r11.2 r11.1 d.2.2.2.2.2.1 = r12 at f12 ⊢
      have E12 : Hid _ := e12
      clear e12
      have K12 : Kept b w w12 := Kept.trans K11.drew k12
      have B0_12 : Arr w.heap.size [.bool true, .int .i64 d.1, .int .i64 d.2.1, .int .i64 d.2.2.1, .int .i64 d.2.2.2.1, .int .i64 d.2.2.2.2.1, .int .i64 d.2.2.2.2.2.1, .int .i64 d.2.2.2.2.2.2] w12 := B0_11.drew.kept k12 (Nat.ne_of_gt y1_BF)
      have B1_12 : Arr (w.heap.size + 1) [.int .i64 v.1, .int .i64 v.2.1, .int .i64 v.2.2] w12 := B1_11.drew.kept k12 (Nat.ne_of_gt y2_BF)
      have B2_12 : Arr (w.heap.size + 1 + 1) [.bool false, .int .i64 0, .int .i64 0, .int .i64 0, .int .i64 0, .int .i64 0, .int .i64 0, .int .i64 0] w12 := B2_11.drew.kept k12 (Nat.ne_of_gt y3_BF)
      have B3_12 : Arr w3.heap.size [.bool true, .int .i64 k, .int .i64 v.1, .int .i64 v.2.1, .int .i64 v.2.2, .int .i64 r8.1, .int .i64 0, .int .i64 0] w12 := B3_11.drew.kept k12 (Nat.ne_of_gt y4_BF)
      have z12 := B3_12.lies
      clear hHeld
      refine hK.out _ _ B0_12 (fun hHeld => ?_)
      clear hK K K11 f11 B0_11 B1_11 B2_11 B3_11 k12
      refine call_at (i := 17) (by kernel_rfl) rfl (fun K hK => ?_)
      go_simp
      refine (rPart_any b r12.2 r12.1 t (t + 2000) _ f12).mono ?_
      rintro e w13 ⟨rfl, f13, k13⟩
      generalize e13 : partS r12.2 r12.1 t (t + 2000) = r13 at f13 ⊢
      have E13 : Hid _ := e13
      clear e13
      have K13 : Kept b w w13 := Kept.trans K12 k13
      have B0_13 : Arr w.heap.size [.bool true, .int .i64 d.1, .int .i64 d.2.1, .int .i64 d.2.2.1, .int .i64 d.2.2.2.1, .int .i64 d.2.2.2.2.1, .int .i64 d.2.2.2.2.2.1, .int .i64 d.2.2.2.2.2.2] w13 := B0_12.kept k13 (Nat.ne_of_gt y1_BF)
      have B1_13 : Arr (w.heap.size + 1) [.int .i64 v.1, .int .i64 v.2.1, .int .i64 v.2.2] w13 := B1_12.kept k13 (Nat.ne_of_gt y2_BF)
      have B2_13 : Arr (w.heap.size + 1 + 1) [.bool false, .int .i64 0, .int .i64 0, .int .i64 0, .int .i64 0, .int .i64 0, .int .i64 0, .int .i64 0] w13 := B2_12.kept k13 (Nat.ne_of_gt y3_BF)
      have B3_13 : Arr w3.heap.size [.bool true, .int .i64 k, .int .i64 v.1, .int .i64 v.2.1, .int .i64 v.2.2, .int .i64 r8.1, .int .i64 0, .int .i64 0] w13 := B3_12.kept k13 (Nat.ne_of_gt y4_BF)
      have z13 := B3_13.lies
      clear hHeld
      refine hK.out _ _ B0_13 (fun hHeld => ?_)
      clear hK K K12 f12 B0_12 B1_12 B2_12 B3_12 k13
      refine call_at (i := 18) (by kernel_rfl) rfl (fun K hK => ?_)
      go_simp
      refine (rAdd_any b r13.2 d.2.2.2.2.2.1 r13.1 _ f13).mono ?_
      rintro e w14 ⟨rfl, f14, k14⟩
      generalize e14 : addS r13.2 d.2.2.2.2.2.1 r13.1 = r14 at f14 ⊢
      have E14 : Hid _ := e14
      clear e14
      have K14 : Kept b w w14 := Kept.trans K13 k14
      have B0_14 : Arr w.heap.size [.bool true, .int .i64 d.1, .int .i64 d.2.1, .int .i64 d.2.2.1, .int .i64 d.2.2.2.1, .int .i64 d.2.2.2.2.1, .int .i64 d.2.2.2.2.2.1, .int .i64 d.2.2.2.2.2.2] w14 := B0_13.kept k14 (Nat.ne_of_gt y1_BF)
      have B1_14 : Arr (w.heap.size + 1) [.int .i64 v.1, .int .i64 v.2.1, .int .i64 v.2.2] w14 := B1_13.kept k14 (Nat.ne_of_gt y2_BF)
      have B2_14 : Arr (w.heap.size + 1 + 1) [.bool false, .int .i64 0, .int .i64 0, .int .i64 0, .int .i64 0, .int .i64 0, .int .i64 0, .int .i64 0] w14 := B2_13.kept k14 (Nat.ne_of_gt y3_BF)
      have B3_14 : Arr w3.heap.size [.bool true, .int .i64 k, .int .i64 v.1, .int .i64 v.2.1, .int .i64 v.2.2, .int .i64 r8.1, .int .i64 0, .int .i64 0] w14 := B3_13.kept k14 (Nat.ne_of_gt y4_BF)
      have z14 := B3_14.lies
      clear hHeld
      refine hK.out _ _ B0_14 (fun hHeld => ?_)
      clear hK K K13 f13 B0_13 B1_13 B2_13 B3_13 k14
      refine take_at (i := 20) (v := ?v145) rfl (by kernel_rfl) (by kernel_rfl) (by kernel_rfl) (fun _ _ _ h => h) (Or.inl ⟨by rfl, ?y145⟩) hHeld ?t145
      case y145 => (intro wx hSw; go_simp <;> with_reducible rfl)
      simp only [Act.put, List.setIfInBounds_toArray, List.set_cons_zero, List.set_cons_succ]
      refine call_at (i := 21) (by kernel_rfl) rfl (fun K hK => ?_)
      have c16_B3_6 : w14.cell? ⟨w3.heap.size, 6, none⟩ = some (.int .i64 0) := B3_14.c 6 (of_decide_eq_true rfl)
      have g16_B3_6 := B3_14.f 6 (of_decide_eq_true rfl)
      go_simp
      clear hHeld
      refine hK.out _ _ (B0_14.new w3.heap.size 6 (Nat.ne_of_lt y4_B0) (.int .i64 r14.1)) (fun hHeld => ?_)
      clear hK K c16_B3_6 g16_B3_6
      refine wpAnyH_done (by kernel_rfl) ?_ _
      clear hHeld
      go_wp2_with fail
      refine rounds_letter (S := fun w' => Kept b w w' ∧ Fl b r14.2 w' ∧ Arr w.heap.size [.bool true, .int .i64 d.1, .int .i64 d.2.1, .int .i64 d.2.2.1, .int .i64 d.2.2.2.1, .int .i64 d.2.2.2.2.1, .int .i64 d.2.2.2.2.2.1, .int .i64 d.2.2.2.2.2.2] w' ∧ Arr (w.heap.size + 1) [.int .i64 v.1, .int .i64 v.2.1, .int .i64 v.2.2] w' ∧ Arr (w.heap.size + 1 + 1) [.bool false, .int .i64 0, .int .i64 0, .int .i64 0, .int .i64 0, .int .i64 0, .int .i64 0, .int .i64 0] w' ∧ Arr w3.heap.size [.bool true, .int .i64 k, .int .i64 v.1, .int .i64 v.2.1, .int .i64 v.2.2, .int .i64 r8.1, .int .i64 r14.1, .int .i64 0] w') ⟨(K14.new _ _ (by omega) _), (f14.new w3.heap.size 6 (Nat.ne_of_lt y4_BF) (.int .i64 r14.1)), (B0_14.new w3.heap.size 6 (Nat.ne_of_lt y4_B0) (.int .i64 r14.1)), (B1_14.new w3.heap.size 6 (Nat.ne_of_lt y4_B1) (.int .i64 r14.1)), (B2_14.new w3.heap.size 6 (Nat.ne_of_lt y4_B2) (.int .i64 r14.1)), (B3_14.put 6 (of_decide_eq_true rfl) (.int .i64 r14.1) [.bool true, .int .i64 k, .int .i64 v.1, .int .i64 v.2.1, .int .i64 v.2.2, .int .i64 r8.1, .int .i64 r14.1, .int .i64 0] rfl)⟩ ?_
      rintro w15 ⟨K15, BF_15, B0_15, B1_15, B2_15, B3_15⟩
      have z15 := B3_15.lies
      clear K14 f14 B0_14 B1_14 B2_14 B3_14
      rw [rounds_succ]
      go_wp2_with fail
      refine wp_region_held_drew (S := fun w' => Arr (w.heap.size + 1) [.int .i64 v.1, .int .i64 v.2.1, .int .i64 v.2.2] w' ∧ Arr w.heap.size [.bool true, .int .i64 d.1, .int .i64 d.2.1, .int .i64 d.2.2.1, .int .i64 d.2.2.2.1, .int .i64 d.2.2.2.2.1, .int .i64 d.2.2.2.2.2.1, .int .i64 d.2.2.2.2.2.2] w') (by kernel_rfl) ⟨B1_15.drew, B0_15.drew⟩ (fun hHeld => ?_)
      refine take_at (i := 0) (v := ?v146) rfl (by kernel_rfl) (by kernel_rfl) (by kernel_rfl) (fun _ _ _ h => h) (Or.inl ⟨by rfl, ?y146⟩) hHeld ?t146
      case y146 => (intro wx hSw; go_simp <;> with_reducible rfl)
      simp only [Act.put, List.setIfInBounds_toArray, List.set_cons_zero, List.set_cons_succ]
      refine take_at (i := 1) (v := ?v147) rfl (by kernel_rfl) (by kernel_rfl) (by kernel_rfl) (fun _ _ _ h => h) (Or.inl ⟨by rfl, ?y147⟩) hHeld ?t147
      case y147 => (intro wx hSw; go_simp <;> with_reducible rfl)
      simp only [Act.put, List.setIfInBounds_toArray, List.set_cons_zero, List.set_cons_succ]
      refine take_at (i := 2) (v := ?v148) rfl (by kernel_rfl) (by kernel_rfl) (by kernel_rfl) (fun _ _ _ h => h) (Or.inl ⟨by rfl, ?y148⟩) hHeld ?t148
      case y148 => (intro wx hSw; go_simp <;> with_reducible rfl)
      simp only [Act.put, List.setIfInBounds_toArray, List.set_cons_zero, List.set_cons_succ]
      refine take_at (i := 3) (v := ?v149) rfl (by kernel_rfl) (by kernel_rfl) (by kernel_rfl) (fun _ _ _ h => h) (Or.inl ⟨by rfl, ?y149⟩) hHeld ?t149
      case y149 => (intro wx hSw; go_simp <;> with_reducible rfl)
      simp only [Act.put, List.setIfInBounds_toArray, List.set_cons_zero, List.set_cons_succ]
      refine take_at (i := 4) (v := ?v150) rfl (by kernel_rfl) (by kernel_rfl) (by kernel_rfl) (fun _ _ _ h => h) (Or.inl ⟨by rfl, ?y150⟩) hHeld ?t150
      case y150 => (intro wx hSw; have hc2 : wx.cell? ⟨w.heap.size + 1, 2, none⟩ = some (.int .i64 v.2.2) := hSw.1.c 2 (of_decide_eq_true rfl); go_simp <;> with_reducible rfl)
      simp only [Act.put, List.setIfInBounds_toArray, List.set_cons_zero, List.set_cons_succ]
      refine take_at (i := 5) (v := ?v151) rfl (by kernel_rfl) (by kernel_rfl) (by kernel_rfl) (fun _ _ _ h => h) (Or.inl ⟨by rfl, ?y151⟩) hHeld ?t151
      case y151 => (intro wx hSw; go_simp <;> with_reducible rfl)
      simp only [Act.put, List.setIfInBounds_toArray, List.set_cons_zero, List.set_cons_succ]
      refine take_at (i := 6) (v := ?v152) rfl (by kernel_rfl) (by kernel_rfl) (by kernel_rfl) (fun _ _ _ h => h) (Or.inl ⟨by rfl, ?y152⟩) hHeld ?t152
      case y152 => (intro wx hSw; go_simp <;> with_reducible rfl)
      simp only [Act.put, List.setIfInBounds_toArray, List.set_cons_zero, List.set_cons_succ]
      refine take_at (i := 7) (v := ?v153) rfl (by kernel_rfl) (by kernel_rfl) (by kernel_rfl) (fun _ _ _ h => h) (Or.inl ⟨by rfl, ?y153⟩) hHeld ?t153
      case y153 => (intro wx hSw; go_simp <;> with_reducible rfl)
      simp only [Act.put, List.setIfInBounds_toArray, List.set_cons_zero, List.set_cons_succ]
      refine take_at (i := 8) (v := ?v154) rfl (by kernel_rfl) (by kernel_rfl) (by kernel_rfl) (fun _ _ _ h => h) (Or.inl ⟨by rfl, ?y154⟩) hHeld ?t154
      case y154 => (intro wx hSw; have hc4 : wx.cell? ⟨w.heap.size, 4, none⟩ = some (.int .i64 d.2.2.2.1) := hSw.2.c 4 (of_decide_eq_true rfl); go_simp <;> with_reducible rfl)
      simp only [Act.put, List.setIfInBounds_toArray, List.set_cons_zero, List.set_cons_succ]
      refine take_at (i := 10) (v := ?v155) rfl (by kernel_rfl) (by kernel_rfl) (by kernel_rfl) (fun _ _ _ h => h) (Or.inl ⟨by rfl, ?y155⟩) hHeld ?t155
      case y155 => (intro wx hSw; go_simp <;> with_reducible rfl)
      simp only [Act.put, List.setIfInBounds_toArray, List.set_cons_zero, List.set_cons_succ]
      refine call_at (i := 9) (by kernel_rfl) rfl (fun K hK => ?_)
      go_simp
      refine (rSub_any b r14.2 v.2.2 d.2.2.2.1 _ BF_15.drew).mono ?_
      rintro e w16 ⟨rfl, f16, k16⟩
      generalize e16 : subS r14.2 v.2.2 d.2.2.2.1 = r16 at f16 ⊢
      have E16 : Hid _ := e16
      clear e16
      have K16 : Kept b w w16 := Kept.trans K15.drew k16
      have B0_16 : Arr w.heap.size [.bool true, .int .i64 d.1, .int .i64 d.2.1, .int .i64 d.2.2.1, .int .i64 d.2.2.2.1, .int .i64 d.2.2.2.2.1, .int .i64 d.2.2.2.2.2.1, .int .i64 d.2.2.2.2.2.2] w16 := B0_15.drew.kept k16 (Nat.ne_of_gt y1_BF)
      have B1_16 : Arr (w.heap.size + 1) [.int .i64 v.1, .int .i64 v.2.1, .int .i64 v.2.2] w16 := B1_15.drew.kept k16 (Nat.ne_of_gt y2_BF)
      have B2_16 : Arr (w.heap.size + 1 + 1) [.bool false, .int .i64 0, .int .i64 0, .int .i64 0, .int .i64 0, .int .i64 0, .int .i64 0, .int .i64 0] w16 := B2_15.drew.kept k16 (Nat.ne_of_gt y3_BF)
      have B3_16 : Arr w3.heap.size [.bool true, .int .i64 k, .int .i64 v.1, .int .i64 v.2.1, .int .i64 v.2.2, .int .i64 r8.1, .int .i64 r14.1, .int .i64 0] w16 := B3_15.drew.kept k16 (Nat.ne_of_gt y4_BF)
      have z16 := B3_16.lies
      clear hHeld
      refine hK.out _ _ ⟨B1_16, B0_16⟩ (fun hHeld => ?_)
      clear hK K K15 BF_15 B0_15 B1_15 B2_15 B3_15 k16
      refine call_at (i := 11) (by kernel_rfl) rfl (fun K hK => ?_)
      go_simp
      refine (rPart_any b r16.2 r16.1 1000 t _ f16).mono ?_
      rintro e w17 ⟨rfl, f17, k17⟩
      generalize e17 : partS r16.2 r16.1 1000 t = r17 at f17 ⊢
      have E17 : Hid _ := e17
      clear e17
      have K17 : Kept b w w17 := Kept.trans K16 k17
      have B0_17 : Arr w.heap.size [.bool true, .int .i64 d.1, .int .i64 d.2.1, .int .i64 d.2.2.1, .int .i64 d.2.2.2.1, .int .i64 d.2.2.2.2.1, .int .i64 d.2.2.2.2.2.1, .int .i64 d.2.2.2.2.2.2] w17 := B0_16.kept k17 (Nat.ne_of_gt y1_BF)
      have B1_17 : Arr (w.heap.size + 1) [.int .i64 v.1, .int .i64 v.2.1, .int .i64 v.2.2] w17 := B1_16.kept k17 (Nat.ne_of_gt y2_BF)
      have B2_17 : Arr (w.heap.size + 1 + 1) [.bool false, .int .i64 0, .int .i64 0, .int .i64 0, .int .i64 0, .int .i64 0, .int .i64 0, .int .i64 0] w17 := B2_16.kept k17 (Nat.ne_of_gt y3_BF)
      have B3_17 : Arr w3.heap.size [.bool true, .int .i64 k, .int .i64 v.1, .int .i64 v.2.1, .int .i64 v.2.2, .int .i64 r8.1, .int .i64 r14.1, .int .i64 0] w17 := B3_16.kept k17 (Nat.ne_of_gt y4_BF)
      have z17 := B3_17.lies
      clear hHeld
      refine hK.out _ _ ⟨B1_17, B0_17⟩ (fun hHeld => ?_)
      clear hK K K16 f16 B0_16 B1_16 B2_16 B3_16 k17
      refine take_at (i := 12) (v := ?v156) rfl (by kernel_rfl) (by kernel_rfl) (by kernel_rfl) (fun _ _ _ h => h) (Or.inl ⟨by rfl, ?y156⟩) hHeld ?t156
      case y156 => (intro wx hSw; go_simp <;> with_reducible rfl)
      simp only [Act.put, List.setIfInBounds_toArray, List.set_cons_zero, List.set_cons_succ]
      refine wpAnyH_done (by kernel_rfl) ?_ _
      clear hHeld
      go_wp2_with fail
      refine wp_region_held_drew (S := fun w' => Arr w.heap.size [.bool true, .int .i64 d.1, .int .i64 d.2.1, .int .i64 d.2.2.1, .int .i64 d.2.2.2.1, .int .i64 d.2.2.2.2.1, .int .i64 d.2.2.2.2.2.1, .int .i64 d.2.2.2.2.2.2] w') (by kernel_rfl) B0_17.drew (fun hHeld => ?_)
      refine take_at (i := 0) (v := ?v157) rfl (by kernel_rfl) (by kernel_rfl) (by kernel_rfl) (fun _ _ _ h => h) (Or.inl ⟨by rfl, ?y157⟩) hHeld ?t157
      case y157 => (intro wx hSw; go_simp <;> with_reducible rfl)
      simp only [Act.put, List.setIfInBounds_toArray, List.set_cons_zero, List.set_cons_succ]
      refine take_at (i := 1) (v := ?v158) rfl (by kernel_rfl) (by kernel_rfl) (by kernel_rfl) (fun _ _ _ h => h) (Or.inl ⟨by rfl, ?y158⟩) hHeld ?t158
      case y158 => (intro wx hSw; go_simp <;> with_reducible rfl)
      simp only [Act.put, List.setIfInBounds_toArray, List.set_cons_zero, List.set_cons_succ]
      refine take_at (i := 2) (v := ?v159) rfl (by kernel_rfl) (by kernel_rfl) (by kernel_rfl) (fun _ _ _ h => h) (Or.inl ⟨by rfl, ?y159⟩) hHeld ?t159
      case y159 => (intro wx hSw; go_simp <;> with_reducible rfl)
      simp only [Act.put, List.setIfInBounds_toArray, List.set_cons_zero, List.set_cons_succ]
      refine take_at (i := 3) (v := ?v160) rfl (by kernel_rfl) (by kernel_rfl) (by kernel_rfl) (fun _ _ _ h => h) (Or.inl ⟨by rfl, ?y160⟩) hHeld ?t160
      case y160 => (intro wx hSw; go_simp <;> with_reducible rfl)
      simp only [Act.put, List.setIfInBounds_toArray, List.set_cons_zero, List.set_cons_succ]
      refine take_at (i := 4) (v := ?v161) rfl (by kernel_rfl) (by kernel_rfl) (by kernel_rfl) (fun _ _ _ h => h) (Or.inl ⟨by rfl, ?y161⟩) hHeld ?t161
      case y161 => (intro wx hSw; go_simp <;> with_reducible rfl)
      simp only [Act.put, List.setIfInBounds_toArray, List.set_cons_zero, List.set_cons_succ]
      refine take_at (i := 5) (v := ?v162) rfl (by kernel_rfl) (by kernel_rfl) (by kernel_rfl) (fun _ _ _ h => h) (Or.inl ⟨by rfl, ?y162⟩) hHeld ?t162
      case y162 => (intro wx hSw; have hc7 : wx.cell? ⟨w.heap.size, 7, none⟩ = some (.int .i64 d.2.2.2.2.2.2) := hSw.c 7 (of_decide_eq_true rfl); go_simp <;> with_reducible rfl)
      simp only [Act.put, List.setIfInBounds_toArray, List.set_cons_zero, List.set_cons_succ]
      refine take_at (i := 6) (v := ?v163) rfl (by kernel_rfl) (by kernel_rfl) (by kernel_rfl) (fun _ _ _ h => h) (Or.inl ⟨by rfl, ?y163⟩) hHeld ?t163
      case y163 => (intro wx hSw; go_simp <;> with_reducible rfl)
      simp only [Act.put, List.setIfInBounds_toArray, List.set_cons_zero, List.set_cons_succ]
      refine take_at (i := 7) (v := ?v164) rfl (by kernel_rfl) (by kernel_rfl) (by kernel_rfl) (fun _ _ _ h => h) (Or.inl ⟨by rfl, ?y164⟩) hHeld ?t164
      case y164 => (intro wx hSw; go_simp <;> with_reducible rfl)
      simp only [Act.put, List.setIfInBounds_toArray, List.set_cons_zero, List.set_cons_succ]
      refine take_at (i := 8) (v := ?v165) rfl (by kernel_rfl) (by kernel_rfl) (by kernel_rfl) (fun _ _ _ h => h) (Or.inl ⟨by rfl, ?y165⟩) hHeld ?t165
      case y165 => (intro wx hSw; go_simp <;> with_reducible rfl)
      simp only [Act.put, List.setIfInBounds_toArray, List.set_cons_zero, List.set_cons_succ]
      refine take_at (i := 9) (v := ?v166) rfl (by kernel_rfl) (by kernel_rfl) (by kernel_rfl) (fun _ _ _ h => h) (Or.inl ⟨by rfl, ?y166⟩) hHeld ?t166
      case y166 => (intro wx hSw; go_simp <;> with_reducible rfl)
      simp only [Act.put, List.setIfInBounds_toArray, List.set_cons_zero, List.set_cons_succ]
      refine take_at (i := 10) (v := ?v167) rfl (by kernel_rfl) (by kernel_rfl) (by kernel_rfl) (fun _ _ _ h => h) (Or.inl ⟨by rfl, ?y167⟩) hHeld ?t167
      case y167 => (intro wx hSw; go_simp <;> with_reducible rfl)
      simp only [Act.put, List.setIfInBounds_toArray, List.set_cons_zero, List.set_cons_succ]
      refine take_at (i := 11) (v := ?v168) rfl (by kernel_rfl) (by kernel_rfl) (by kernel_rfl) (fun _ _ _ h => h) (Or.inl ⟨by rfl, ?y168⟩) hHeld ?t168
      case y168 => (intro wx hSw; go_simp <;> with_reducible rfl)
      simp only [Act.put, List.setIfInBounds_toArray, List.set_cons_zero, List.set_cons_succ]
      refine take_at (i := 12) (v := ?v169) rfl (by kernel_rfl) (by kernel_rfl) (by kernel_rfl) (fun _ _ _ h => h) (Or.inl ⟨by rfl, ?y169⟩) hHeld ?t169
      case y169 => (intro wx hSw; have hc7 : wx.cell? ⟨w.heap.size, 7, none⟩ = some (.int .i64 d.2.2.2.2.2.2) := hSw.c 7 (of_decide_eq_true rfl); go_simp <;> with_reducible rfl)
      simp only [Act.put, List.setIfInBounds_toArray, List.set_cons_zero, List.set_cons_succ]
      refine take_at (i := 14) (v := ?v170) rfl (by kernel_rfl) (by kernel_rfl) (by kernel_rfl) (fun _ _ _ h => h) (Or.inl ⟨by rfl, ?y170⟩) hHeld ?t170
      case y170 => (intro wx hSw; go_simp <;> with_reducible rfl)
      simp only [Act.put, List.setIfInBounds_toArray, List.set_cons_zero, List.set_cons_succ]
      refine take_at (i := 15) (v := ?v171) rfl (by kernel_rfl) (by kernel_rfl) (by kernel_rfl) (fun _ _ _ h => h) (Or.inl ⟨by rfl, ?y171⟩) hHeld ?t171
      case y171 => (intro wx hSw; go_simp <;> with_reducible rfl)
      simp only [Act.put, List.setIfInBounds_toArray, List.set_cons_zero, List.set_cons_succ]
      refine take_at (i := 16) (v := ?v172) rfl (by kernel_rfl) (by kernel_rfl) (by kernel_rfl) (fun _ _ _ h => h) (Or.inl ⟨by rfl, ?y172⟩) hHeld ?t172
      case y172 => (intro wx hSw; go_simp <;> with_reducible rfl)
      simp only [Act.put, List.setIfInBounds_toArray, List.set_cons_zero, List.set_cons_succ]
      rw [IntWalk.i64_in (t + 2000) (by omega)]
      refine take_at (i := 19) (v := ?v173) rfl (by kernel_rfl) (by kernel_rfl) (by kernel_rfl) (fun _ _ _ h => h) (Or.inl ⟨by rfl, ?y173⟩) hHeld ?t173
      case y173 => (intro wx hSw; go_simp <;> with_reducible rfl)
      simp only [Act.put, List.setIfInBounds_toArray, List.set_cons_zero, List.set_cons_succ]
      refine call_at (i := 13) (by kernel_rfl) rfl (fun K hK => ?_)
      go_simp
      refine (rSub_any b r17.2 r17.1 d.2.2.2.2.2.2 _ f17.drew).mono ?_
      rintro e w18 ⟨rfl, f18, k18⟩
      generalize e18 : subS r17.2 r17.1 d.2.2.2.2.2.2 = r18 at f18 ⊢
      have E18 : Hid _ := e18
      clear e18
      have K18 : Kept b w w18 := Kept.trans K17.drew k18
      have B0_18 : Arr w.heap.size [.bool true, .int .i64 d.1, .int .i64 d.2.1, .int .i64 d.2.2.1, .int .i64 d.2.2.2.1, .int .i64 d.2.2.2.2.1, .int .i64 d.2.2.2.2.2.1, .int .i64 d.2.2.2.2.2.2] w18 := B0_17.drew.kept k18 (Nat.ne_of_gt y1_BF)
      have B1_18 : Arr (w.heap.size + 1) [.int .i64 v.1, .int .i64 v.2.1, .int .i64 v.2.2] w18 := B1_17.drew.kept k18 (Nat.ne_of_gt y2_BF)
      have B2_18 : Arr (w.heap.size + 1 + 1) [.bool false, .int .i64 0, .int .i64 0, .int .i64 0, .int .i64 0, .int .i64 0, .int .i64 0, .int .i64 0] w18 := B2_17.drew.kept k18 (Nat.ne_of_gt y3_BF)
      have B3_18 : Arr w3.heap.size [.bool true, .int .i64 k, .int .i64 v.1, .int .i64 v.2.1, .int .i64 v.2.2, .int .i64 r8.1, .int .i64 r14.1, .int .i64 0] w18 := B3_17.drew.kept k18 (Nat.ne_of_gt y4_BF)
      have z18 := B3_18.lies
      clear hHeld
      refine hK.out _ _ B0_18 (fun hHeld => ?_)
      clear hK K K17 f17 B0_17 B1_17 B2_17 B3_17 k18
      refine call_at (i := 17) (by kernel_rfl) rfl (fun K hK => ?_)
      go_simp
      refine (rPart_any b r18.2 r18.1 t (t + 2000) _ f18).mono ?_
      rintro e w19 ⟨rfl, f19, k19⟩
      generalize e19 : partS r18.2 r18.1 t (t + 2000) = r19 at f19 ⊢
      have E19 : Hid _ := e19
      clear e19
      have K19 : Kept b w w19 := Kept.trans K18 k19
      have B0_19 : Arr w.heap.size [.bool true, .int .i64 d.1, .int .i64 d.2.1, .int .i64 d.2.2.1, .int .i64 d.2.2.2.1, .int .i64 d.2.2.2.2.1, .int .i64 d.2.2.2.2.2.1, .int .i64 d.2.2.2.2.2.2] w19 := B0_18.kept k19 (Nat.ne_of_gt y1_BF)
      have B1_19 : Arr (w.heap.size + 1) [.int .i64 v.1, .int .i64 v.2.1, .int .i64 v.2.2] w19 := B1_18.kept k19 (Nat.ne_of_gt y2_BF)
      have B2_19 : Arr (w.heap.size + 1 + 1) [.bool false, .int .i64 0, .int .i64 0, .int .i64 0, .int .i64 0, .int .i64 0, .int .i64 0, .int .i64 0] w19 := B2_18.kept k19 (Nat.ne_of_gt y3_BF)
      have B3_19 : Arr w3.heap.size [.bool true, .int .i64 k, .int .i64 v.1, .int .i64 v.2.1, .int .i64 v.2.2, .int .i64 r8.1, .int .i64 r14.1, .int .i64 0] w19 := B3_18.kept k19 (Nat.ne_of_gt y4_BF)
      have z19 := B3_19.lies
      clear hHeld
      refine hK.out _ _ B0_19 (fun hHeld => ?_)
      clear hK K K18 f18 B0_18 B1_18 B2_18 B3_18 k19
      refine call_at (i := 18) (by kernel_rfl) rfl (fun K hK => ?_)
      go_simp
      refine (rAdd_any b r19.2 d.2.2.2.2.2.2 r19.1 _ f19).mono ?_
      rintro e w20 ⟨rfl, f20, k20⟩
      generalize e20 : addS r19.2 d.2.2.2.2.2.2 r19.1 = r20 at f20 ⊢
      have E20 : Hid _ := e20
      clear e20
      have K20 : Kept b w w20 := Kept.trans K19 k20
      have B0_20 : Arr w.heap.size [.bool true, .int .i64 d.1, .int .i64 d.2.1, .int .i64 d.2.2.1, .int .i64 d.2.2.2.1, .int .i64 d.2.2.2.2.1, .int .i64 d.2.2.2.2.2.1, .int .i64 d.2.2.2.2.2.2] w20 := B0_19.kept k20 (Nat.ne_of_gt y1_BF)
      have B1_20 : Arr (w.heap.size + 1) [.int .i64 v.1, .int .i64 v.2.1, .int .i64 v.2.2] w20 := B1_19.kept k20 (Nat.ne_of_gt y2_BF)
      have B2_20 : Arr (w.heap.size + 1 + 1) [.bool false, .int .i64 0, .int .i64 0, .int .i64 0, .int .i64 0, .int .i64 0, .int .i64 0, .int .i64 0] w20 := B2_19.kept k20 (Nat.ne_of_gt y3_BF)
      have B3_20 : Arr w3.heap.size [.bool true, .int .i64 k, .int .i64 v.1, .int .i64 v.2.1, .int .i64 v.2.2, .int .i64 r8.1, .int .i64 r14.1, .int .i64 0] w20 := B3_19.kept k20 (Nat.ne_of_gt y4_BF)
      have z20 := B3_20.lies
      clear hHeld
      refine hK.out _ _ B0_20 (fun hHeld => ?_)
      clear hK K K19 f19 B0_19 B1_19 B2_19 B3_19 k20
      refine take_at (i := 20) (v := ?v174) rfl (by kernel_rfl) (by kernel_rfl) (by kernel_rfl) (fun _ _ _ h => h) (Or.inl ⟨by rfl, ?y174⟩) hHeld ?t174
      case y174 => (intro wx hSw; go_simp <;> with_reducible rfl)
      simp only [Act.put, List.setIfInBounds_toArray, List.set_cons_zero, List.set_cons_succ]
      refine call_at (i := 21) (by kernel_rfl) rfl (fun K hK => ?_)
      have c20_B3_7 : w20.cell? ⟨w3.heap.size, 7, none⟩ = some (.int .i64 0) := B3_20.c 7 (of_decide_eq_true rfl)
      have g20_B3_7 := B3_20.f 7 (of_decide_eq_true rfl)
      go_simp
      clear hHeld
      refine hK.out _ _ (B0_20.new w3.heap.size 7 (Nat.ne_of_lt y4_B0) (.int .i64 r20.1)) (fun hHeld => ?_)
      clear hK K c20_B3_7 g20_B3_7
      refine wpAnyH_done (by kernel_rfl) ?_ _
      clear hHeld
      go_wp2_with fail
      refine rounds_letter (S := fun w' => Kept b w w' ∧ Fl b r20.2 w' ∧ Arr w.heap.size [.bool true, .int .i64 d.1, .int .i64 d.2.1, .int .i64 d.2.2.1, .int .i64 d.2.2.2.1, .int .i64 d.2.2.2.2.1, .int .i64 d.2.2.2.2.2.1, .int .i64 d.2.2.2.2.2.2] w' ∧ Arr (w.heap.size + 1) [.int .i64 v.1, .int .i64 v.2.1, .int .i64 v.2.2] w' ∧ Arr (w.heap.size + 1 + 1) [.bool false, .int .i64 0, .int .i64 0, .int .i64 0, .int .i64 0, .int .i64 0, .int .i64 0, .int .i64 0] w' ∧ Arr w3.heap.size [.bool true, .int .i64 k, .int .i64 v.1, .int .i64 v.2.1, .int .i64 v.2.2, .int .i64 r8.1, .int .i64 r14.1, .int .i64 r20.1] w') ⟨(K20.new _ _ (by omega) _), (f20.new w3.heap.size 7 (Nat.ne_of_lt y4_BF) (.int .i64 r20.1)), (B0_20.new w3.heap.size 7 (Nat.ne_of_lt y4_B0) (.int .i64 r20.1)), (B1_20.new w3.heap.size 7 (Nat.ne_of_lt y4_B1) (.int .i64 r20.1)), (B2_20.new w3.heap.size 7 (Nat.ne_of_lt y4_B2) (.int .i64 r20.1)), (B3_20.put 7 (of_decide_eq_true rfl) (.int .i64 r20.1) [.bool true, .int .i64 k, .int .i64 v.1, .int .i64 v.2.1, .int .i64 v.2.2, .int .i64 r8.1, .int .i64 r14.1, .int .i64 r20.1] rfl)⟩ ?_
      rintro w21 ⟨K21, BF_21, B0_21, B1_21, B2_21, B3_21⟩
      have z21 := B3_21.lies
      clear K20 f20 B0_20 B1_20 B2_20 B3_20
      rw [rounds_succ]
      rcases Bool.eq_false_or_eq_true r20.2 with hc1 | hc1
      · have Hhc1 : Hid (r20.2 = true) := hc1
        have c22_B2_0 : w21.cell? ⟨w.heap.size + 1 + 1, 0, none⟩ = some (.bool false) := B2_21.c 0 (of_decide_eq_true rfl)
        have c22_B2_1 : w21.cell? ⟨w.heap.size + 1 + 1, 1, none⟩ = some (.int .i64 0) := B2_21.c 1 (of_decide_eq_true rfl)
        have c22_B2_2 : w21.cell? ⟨w.heap.size + 1 + 1, 2, none⟩ = some (.int .i64 0) := B2_21.c 2 (of_decide_eq_true rfl)
        have c22_B2_3 : w21.cell? ⟨w.heap.size + 1 + 1, 3, none⟩ = some (.int .i64 0) := B2_21.c 3 (of_decide_eq_true rfl)
        have c22_B2_4 : w21.cell? ⟨w.heap.size + 1 + 1, 4, none⟩ = some (.int .i64 0) := B2_21.c 4 (of_decide_eq_true rfl)
        have c22_B2_5 : w21.cell? ⟨w.heap.size + 1 + 1, 5, none⟩ = some (.int .i64 0) := B2_21.c 5 (of_decide_eq_true rfl)
        have c22_B2_6 : w21.cell? ⟨w.heap.size + 1 + 1, 6, none⟩ = some (.int .i64 0) := B2_21.c 6 (of_decide_eq_true rfl)
        have c22_B2_7 : w21.cell? ⟨w.heap.size + 1 + 1, 7, none⟩ = some (.int .i64 0) := B2_21.c 7 (of_decide_eq_true rfl)
        have c22_BF := BF_21.cell
        have g22_B2_0 := B2_21.f 0 (of_decide_eq_true rfl)
        have g22_B2_1 := B2_21.f 1 (of_decide_eq_true rfl)
        have g22_B2_2 := B2_21.f 2 (of_decide_eq_true rfl)
        have g22_B2_3 := B2_21.f 3 (of_decide_eq_true rfl)
        have g22_B2_4 := B2_21.f 4 (of_decide_eq_true rfl)
        have g22_B2_5 := B2_21.f 5 (of_decide_eq_true rfl)
        have g22_B2_6 := B2_21.f 6 (of_decide_eq_true rfl)
        have g22_B2_7 := B2_21.f 7 (of_decide_eq_true rfl)
        go_wp2_with (with_reducible refine post_stop ?_)
        refine Stop.mk ?_
        clear c22_B2_0 c22_B2_1 c22_B2_2 c22_B2_3 c22_B2_4 c22_B2_5 c22_B2_6 c22_B2_7 c22_BF g22_B2_0 g22_B2_1 g22_B2_2 g22_B2_3 g22_B2_4 g22_B2_5 g22_B2_6 g22_B2_7
        refine bodyPost_ret (v := .agg #[.bool false, .int .i64 0, .int .i64 0, .int .i64 0, .int .i64 0, .int .i64 0, .int .i64 0, .int .i64 0]) (results_arr Try.results9 ((((((((B2_21.put 0 (of_decide_eq_true rfl) (.bool false) [.bool false, .int .i64 0, .int .i64 0, .int .i64 0, .int .i64 0, .int .i64 0, .int .i64 0, .int .i64 0] rfl).put 1 (of_decide_eq_true rfl) (.int .i64 0) [.bool false, .int .i64 0, .int .i64 0, .int .i64 0, .int .i64 0, .int .i64 0, .int .i64 0, .int .i64 0] rfl).put 2 (of_decide_eq_true rfl) (.int .i64 0) [.bool false, .int .i64 0, .int .i64 0, .int .i64 0, .int .i64 0, .int .i64 0, .int .i64 0, .int .i64 0] rfl).put 3 (of_decide_eq_true rfl) (.int .i64 0) [.bool false, .int .i64 0, .int .i64 0, .int .i64 0, .int .i64 0, .int .i64 0, .int .i64 0, .int .i64 0] rfl).put 4 (of_decide_eq_true rfl) (.int .i64 0) [.bool false, .int .i64 0, .int .i64 0, .int .i64 0, .int .i64 0, .int .i64 0, .int .i64 0, .int .i64 0] rfl).put 5 (of_decide_eq_true rfl) (.int .i64 0) [.bool false, .int .i64 0, .int .i64 0, .int .i64 0, .int .i64 0, .int .i64 0, .int .i64 0, .int .i64 0] rfl).put 6 (of_decide_eq_true rfl) (.int .i64 0) [.bool false, .int .i64 0, .int .i64 0, .int .i64 0, .int .i64 0, .int .i64 0, .int .i64 0, .int .i64 0] rfl).put 7 (of_decide_eq_true rfl) (.int .i64 0) [.bool false, .int .i64 0, .int .i64 0, .int .i64 0, .int .i64 0, .int .i64 0, .int .i64 0, .int .i64 0] rfl) rfl (by kernel_rfl) (by kernel_rfl)) rfl ?_
        have hs : rStepIn bad d v k t = ((false, 0, 0, 0, 0, 0, 0, 0), r20.2) := by unfold rStepIn; simp only [E1.out, E2.out, E3.out, E4.out, E5.out, E6.out, E7.out, E8.out, E10.out, E11.out, E12.out, E13.out, E14.out, E16.out, E17.out, E18.out, E19.out, E20.out]; rw [if_pos Hhc1.out]
        rw [hs]
        exact ⟨rfl, ((((((((BF_21.new (w.heap.size + 1 + 1) 0 (Nat.ne_of_lt y3_BF) (.bool false)).new (w.heap.size + 1 + 1) 1 (Nat.ne_of_lt y3_BF) (.int .i64 0)).new (w.heap.size + 1 + 1) 2 (Nat.ne_of_lt y3_BF) (.int .i64 0)).new (w.heap.size + 1 + 1) 3 (Nat.ne_of_lt y3_BF) (.int .i64 0)).new (w.heap.size + 1 + 1) 4 (Nat.ne_of_lt y3_BF) (.int .i64 0)).new (w.heap.size + 1 + 1) 5 (Nat.ne_of_lt y3_BF) (.int .i64 0)).new (w.heap.size + 1 + 1) 6 (Nat.ne_of_lt y3_BF) (.int .i64 0)).new (w.heap.size + 1 + 1) 7 (Nat.ne_of_lt y3_BF) (.int .i64 0)), ((((((((K21.new _ _ (by omega) _).new _ _ (by omega) _).new _ _ (by omega) _).new _ _ (by omega) _).new _ _ (by omega) _).new _ _ (by omega) _).new _ _ (by omega) _).new _ _ (by omega) _)⟩
      · have Hhc1 : Hid (r20.2 = false) := hc1
        have c22_B2_0 : w21.cell? ⟨w.heap.size + 1 + 1, 0, none⟩ = some (.bool false) := B2_21.c 0 (of_decide_eq_true rfl)
        have c22_B2_1 : w21.cell? ⟨w.heap.size + 1 + 1, 1, none⟩ = some (.int .i64 0) := B2_21.c 1 (of_decide_eq_true rfl)
        have c22_B2_2 : w21.cell? ⟨w.heap.size + 1 + 1, 2, none⟩ = some (.int .i64 0) := B2_21.c 2 (of_decide_eq_true rfl)
        have c22_B2_3 : w21.cell? ⟨w.heap.size + 1 + 1, 3, none⟩ = some (.int .i64 0) := B2_21.c 3 (of_decide_eq_true rfl)
        have c22_B2_4 : w21.cell? ⟨w.heap.size + 1 + 1, 4, none⟩ = some (.int .i64 0) := B2_21.c 4 (of_decide_eq_true rfl)
        have c22_B2_5 : w21.cell? ⟨w.heap.size + 1 + 1, 5, none⟩ = some (.int .i64 0) := B2_21.c 5 (of_decide_eq_true rfl)
        have c22_B2_6 : w21.cell? ⟨w.heap.size + 1 + 1, 6, none⟩ = some (.int .i64 0) := B2_21.c 6 (of_decide_eq_true rfl)
        have c22_B2_7 : w21.cell? ⟨w.heap.size + 1 + 1, 7, none⟩ = some (.int .i64 0) := B2_21.c 7 (of_decide_eq_true rfl)
        have c22_B3_0 : w21.cell? ⟨w3.heap.size, 0, none⟩ = some (.bool true) := B3_21.c 0 (of_decide_eq_true rfl)
        have c22_B3_1 : w21.cell? ⟨w3.heap.size, 1, none⟩ = some (.int .i64 k) := B3_21.c 1 (of_decide_eq_true rfl)
        have c22_B3_2 : w21.cell? ⟨w3.heap.size, 2, none⟩ = some (.int .i64 v.1) := B3_21.c 2 (of_decide_eq_true rfl)
        have c22_B3_3 : w21.cell? ⟨w3.heap.size, 3, none⟩ = some (.int .i64 v.2.1) := B3_21.c 3 (of_decide_eq_true rfl)
        have c22_B3_4 : w21.cell? ⟨w3.heap.size, 4, none⟩ = some (.int .i64 v.2.2) := B3_21.c 4 (of_decide_eq_true rfl)
        have c22_B3_5 : w21.cell? ⟨w3.heap.size, 5, none⟩ = some (.int .i64 r8.1) := B3_21.c 5 (of_decide_eq_true rfl)
        have c22_B3_6 : w21.cell? ⟨w3.heap.size, 6, none⟩ = some (.int .i64 r14.1) := B3_21.c 6 (of_decide_eq_true rfl)
        have c22_B3_7 : w21.cell? ⟨w3.heap.size, 7, none⟩ = some (.int .i64 r20.1) := B3_21.c 7 (of_decide_eq_true rfl)
        have c22_BF := BF_21.cell
        have g22_B2_0 := B2_21.f 0 (of_decide_eq_true rfl)
        have g22_B2_1 := B2_21.f 1 (of_decide_eq_true rfl)
        have g22_B2_2 := B2_21.f 2 (of_decide_eq_true rfl)
        have g22_B2_3 := B2_21.f 3 (of_decide_eq_true rfl)
        have g22_B2_4 := B2_21.f 4 (of_decide_eq_true rfl)
        have g22_B2_5 := B2_21.f 5 (of_decide_eq_true rfl)
        have g22_B2_6 := B2_21.f 6 (of_decide_eq_true rfl)
        have g22_B2_7 := B2_21.f 7 (of_decide_eq_true rfl)
        go_wp2_with (with_reducible refine post_stop ?_)
        refine Stop.mk ?_
        clear c22_B2_0 c22_B2_1 c22_B2_2 c22_B2_3 c22_B2_4 c22_B2_5 c22_B2_6 c22_B2_7 c22_B3_0 c22_B3_1 c22_B3_2 c22_B3_3 c22_B3_4 c22_B3_5 c22_B3_6 c22_B3_7 c22_BF g22_B2_0 g22_B2_1 g22_B2_2 g22_B2_3 g22_B2_4 g22_B2_5 g22_B2_6 g22_B2_7
        refine bodyPost_ret (v := .agg #[.bool true, .int .i64 k, .int .i64 v.1, .int .i64 v.2.1, .int .i64 v.2.2, .int .i64 r8.1, .int .i64 r14.1, .int .i64 r20.1]) (results_arr Try.results9 ((((((((B2_21.put 0 (of_decide_eq_true rfl) (.bool true) [.bool true, .int .i64 0, .int .i64 0, .int .i64 0, .int .i64 0, .int .i64 0, .int .i64 0, .int .i64 0] rfl).put 1 (of_decide_eq_true rfl) (.int .i64 k) [.bool true, .int .i64 k, .int .i64 0, .int .i64 0, .int .i64 0, .int .i64 0, .int .i64 0, .int .i64 0] rfl).put 2 (of_decide_eq_true rfl) (.int .i64 v.1) [.bool true, .int .i64 k, .int .i64 v.1, .int .i64 0, .int .i64 0, .int .i64 0, .int .i64 0, .int .i64 0] rfl).put 3 (of_decide_eq_true rfl) (.int .i64 v.2.1) [.bool true, .int .i64 k, .int .i64 v.1, .int .i64 v.2.1, .int .i64 0, .int .i64 0, .int .i64 0, .int .i64 0] rfl).put 4 (of_decide_eq_true rfl) (.int .i64 v.2.2) [.bool true, .int .i64 k, .int .i64 v.1, .int .i64 v.2.1, .int .i64 v.2.2, .int .i64 0, .int .i64 0, .int .i64 0] rfl).put 5 (of_decide_eq_true rfl) (.int .i64 r8.1) [.bool true, .int .i64 k, .int .i64 v.1, .int .i64 v.2.1, .int .i64 v.2.2, .int .i64 r8.1, .int .i64 0, .int .i64 0] rfl).put 6 (of_decide_eq_true rfl) (.int .i64 r14.1) [.bool true, .int .i64 k, .int .i64 v.1, .int .i64 v.2.1, .int .i64 v.2.2, .int .i64 r8.1, .int .i64 r14.1, .int .i64 0] rfl).put 7 (of_decide_eq_true rfl) (.int .i64 r20.1) [.bool true, .int .i64 k, .int .i64 v.1, .int .i64 v.2.1, .int .i64 v.2.2, .int .i64 r8.1, .int .i64 r14.1, .int .i64 r20.1] rfl) rfl (by kernel_rfl) (by kernel_rfl)) rfl ?_
        have hs : rStepIn bad d v k t = ((true, k, v.1, v.2.1, v.2.2, r8.1, r14.1, r20.1), r20.2) := by unfold rStepIn; simp only [E1.out, E2.out, E3.out, E4.out, E5.out, E6.out, E7.out, E8.out, E10.out, E11.out, E12.out, E13.out, E14.out, E16.out, E17.out, E18.out, E19.out, E20.out]; rw [if_neg (by rw [Hhc1.out]; decide)]
        rw [hs]
        exact ⟨rfl, ((((((((BF_21.new (w.heap.size + 1 + 1) 0 (Nat.ne_of_lt y3_BF) (.bool true)).new (w.heap.size + 1 + 1) 1 (Nat.ne_of_lt y3_BF) (.int .i64 k)).new (w.heap.size + 1 + 1) 2 (Nat.ne_of_lt y3_BF) (.int .i64 v.1)).new (w.heap.size + 1 + 1) 3 (Nat.ne_of_lt y3_BF) (.int .i64 v.2.1)).new (w.heap.size + 1 + 1) 4 (Nat.ne_of_lt y3_BF) (.int .i64 v.2.2)).new (w.heap.size + 1 + 1) 5 (Nat.ne_of_lt y3_BF) (.int .i64 r8.1)).new (w.heap.size + 1 + 1) 6 (Nat.ne_of_lt y3_BF) (.int .i64 r14.1)).new (w.heap.size + 1 + 1) 7 (Nat.ne_of_lt y3_BF) (.int .i64 r20.1)), ((((((((K21.new _ _ (by omega) _).new _ _ (by omega) _).new _ _ (by omega) _).new _ _ (by omega) _).new _ _ (by omega) _).new _ _ (by omega) _).new _ _ (by omega) _).new _ _ (by omega) _)⟩
set_option maxRecDepth 100000 in
set_option maxHeartbeats 2000000 in
theorem rStep_no (b : Nat) (bad : Bool) (d : D7) (v : V3) (k t : Int) (w : World) (hw : Fl b bad w) (hd : -9223372036854775808 ≤ d.1 ∧ d.1 ≤ 9223372036854775807) (hk : -9223372036854775808 ≤ k ∧ k ≤ 9223372036854775807) (ht : 10 ≤ t) (hu : t ≤ 10000) (HK : Hid (k = d.1 + t)) :
    Calls Try.prog 9 #[.pointer (some ⟨b, 0, none⟩), .agg #[.bool false, .int .i64 d.1, .int .i64 d.2.1, .int .i64 d.2.2.1, .int .i64 d.2.2.2.1, .int .i64 d.2.2.2.2.1, .int .i64 d.2.2.2.2.2.1, .int .i64 d.2.2.2.2.2.2], .agg #[.int .i64 v.1, .int .i64 v.2.1, .int .i64 v.2.2], .int .i64 k] w fun e w' => e = .returned (.agg #[.bool ((rStep0 bad v k).1.1), .int .i64 ((rStep0 bad v k).1.2.1), .int .i64 ((rStep0 bad v k).1.2.2.1), .int .i64 ((rStep0 bad v k).1.2.2.2.1), .int .i64 ((rStep0 bad v k).1.2.2.2.2.1), .int .i64 ((rStep0 bad v k).1.2.2.2.2.2.1), .int .i64 ((rStep0 bad v k).1.2.2.2.2.2.2.1), .int .i64 ((rStep0 bad v k).1.2.2.2.2.2.2.2)]) ∧ Fl b (rStep0 bad v k).2 w' ∧ Kept b w w' := by
  have hl := hw.lies
  go_enter Try.func9, Try.ntmps9
  have y1_BF : b < w.heap.size := hw.lies
  have y2_BF : b < w.heap.size + 1 := (Nat.lt_succ_of_lt hw.lies)
  have y2_B0 : w.heap.size < w.heap.size + 1 := (Nat.lt_succ_self _)
  have y3_BF : b < w.heap.size + 1 + 1 := (Nat.lt_succ_of_lt (Nat.lt_succ_of_lt hw.lies))
  have y3_B0 : w.heap.size < w.heap.size + 1 + 1 := (Nat.lt_succ_of_lt (Nat.lt_succ_self _))
  have y3_B1 : w.heap.size + 1 < w.heap.size + 1 + 1 := (Nat.lt_succ_self _)
  go_wp2_with fail
  refine wp_loop_rounds 4 ?_
  rw [rounds_succ]
  go_wp2_with fail
  refine (rAdd_any b bad v.1 0 _ (((hw.alloc _).alloc _).alloc _)).mono ?_
  rintro e w1 ⟨rfl, f1, k1⟩
  generalize e1 : addS bad v.1 0 = r1 at f1 ⊢
  have E1 : Hid _ := e1
  clear e1
  have K1 : Kept b w w1 := Kept.trans ((((Kept.refl b w).al _).al _).al _) k1
  have B0_1 : Arr w.heap.size [.bool false, .int .i64 d.1, .int .i64 d.2.1, .int .i64 d.2.2.1, .int .i64 d.2.2.2.1, .int .i64 d.2.2.2.2.1, .int .i64 d.2.2.2.2.2.1, .int .i64 d.2.2.2.2.2.2] w1 := (((Arr_at _ _ [.bool false, .int .i64 d.1, .int .i64 d.2.1, .int .i64 d.2.2.1, .int .i64 d.2.2.2.1, .int .i64 d.2.2.2.2.1, .int .i64 d.2.2.2.2.2.1, .int .i64 d.2.2.2.2.2.2] _ (by simp)).alloc _).alloc _).kept k1 (Nat.ne_of_gt y1_BF)
  have B1_1 : Arr (w.heap.size + 1) [.int .i64 v.1, .int .i64 v.2.1, .int .i64 v.2.2] w1 := ((Arr_at _ _ [.int .i64 v.1, .int .i64 v.2.1, .int .i64 v.2.2] _ (by simp)).alloc _).kept k1 (Nat.ne_of_gt y2_BF)
  have B2_1 : Arr (w.heap.size + 1 + 1) [.bool false, .int .i64 0, .int .i64 0, .int .i64 0, .int .i64 0, .int .i64 0, .int .i64 0, .int .i64 0] w1 := (Arr_at _ _ [.bool false, .int .i64 0, .int .i64 0, .int .i64 0, .int .i64 0, .int .i64 0, .int .i64 0, .int .i64 0] _ (by simp)).kept k1 (Nat.ne_of_gt y3_BF)
  have z1 := B2_1.lies
  clear k1
  go_wp2_with fail
  rw [rounds_succ]
  have c4_B1_1 : w1.cell? ⟨w.heap.size + 1, 1, none⟩ = some (.int .i64 v.2.1) := B1_1.c 1 (of_decide_eq_true rfl)
  go_wp2_with fail
  refine (rAdd_any b r1.2 v.2.1 0 _ f1).mono ?_
  rintro e w2 ⟨rfl, f2, k2⟩
  generalize e2 : addS r1.2 v.2.1 0 = r2 at f2 ⊢
  have E2 : Hid _ := e2
  clear e2
  have K2 : Kept b w w2 := Kept.trans K1 k2
  have B0_2 : Arr w.heap.size [.bool false, .int .i64 d.1, .int .i64 d.2.1, .int .i64 d.2.2.1, .int .i64 d.2.2.2.1, .int .i64 d.2.2.2.2.1, .int .i64 d.2.2.2.2.2.1, .int .i64 d.2.2.2.2.2.2] w2 := B0_1.kept k2 (Nat.ne_of_gt y1_BF)
  have B1_2 : Arr (w.heap.size + 1) [.int .i64 v.1, .int .i64 v.2.1, .int .i64 v.2.2] w2 := B1_1.kept k2 (Nat.ne_of_gt y2_BF)
  have B2_2 : Arr (w.heap.size + 1 + 1) [.bool false, .int .i64 0, .int .i64 0, .int .i64 0, .int .i64 0, .int .i64 0, .int .i64 0, .int .i64 0] w2 := B2_1.kept k2 (Nat.ne_of_gt y3_BF)
  have z2 := B2_2.lies
  clear c4_B1_1 K1 f1 B0_1 B1_1 B2_1 k2
  go_wp2_with fail
  rw [rounds_succ]
  have c6_B1_2 : w2.cell? ⟨w.heap.size + 1, 2, none⟩ = some (.int .i64 v.2.2) := B1_2.c 2 (of_decide_eq_true rfl)
  go_wp2_with fail
  refine (rAdd_any b r2.2 v.2.2 0 _ f2).mono ?_
  rintro e w3 ⟨rfl, f3, k3⟩
  generalize e3 : addS r2.2 v.2.2 0 = r3 at f3 ⊢
  have E3 : Hid _ := e3
  clear e3
  have K3 : Kept b w w3 := Kept.trans K2 k3
  have B0_3 : Arr w.heap.size [.bool false, .int .i64 d.1, .int .i64 d.2.1, .int .i64 d.2.2.1, .int .i64 d.2.2.2.1, .int .i64 d.2.2.2.2.1, .int .i64 d.2.2.2.2.2.1, .int .i64 d.2.2.2.2.2.2] w3 := B0_2.kept k3 (Nat.ne_of_gt y1_BF)
  have B1_3 : Arr (w.heap.size + 1) [.int .i64 v.1, .int .i64 v.2.1, .int .i64 v.2.2] w3 := B1_2.kept k3 (Nat.ne_of_gt y2_BF)
  have B2_3 : Arr (w.heap.size + 1 + 1) [.bool false, .int .i64 0, .int .i64 0, .int .i64 0, .int .i64 0, .int .i64 0, .int .i64 0, .int .i64 0] w3 := B2_2.kept k3 (Nat.ne_of_gt y3_BF)
  have z3 := B2_3.lies
  clear c6_B1_2 K2 f2 B0_2 B1_2 B2_2 k3
  go_wp2_with fail
  rw [rounds_succ]
  have c8_B0_1 : w3.cell? ⟨w.heap.size, 1, none⟩ = some (.int .i64 d.1) := B0_3.c 1 (of_decide_eq_true rfl)
  go_wp2_with fail
  go_loop [11, 10] (fun i x => ∃ c : Nat, c ≤ 9991 ∧ i = .int .i64 (10 + (c : Int)) ∧ x = .int .i64 (tB t c)) (fun i _ => 10001 - (intOf i).toNat)
  case atStart => exact ⟨0, by omega, rfl, by rw [tB_zero ht]⟩
  case round =>
    obtain ⟨c, hc, rfl, rfl⟩ := hrel
    by_cases hl : c < 9991
    · have w1 : IntKind.i64.wrap (9223372036854775807 - (10 + (c : Int))) = 9223372036854775807 - (10 + (c : Int)) := by rw [IntKind.wrap_i64]; omega
      by_cases c1 : d.1 ≤ 9223372036854775807 - (10 + (c : Int))
      · have w2 : IntKind.i64.wrap (d.1 + (10 + (c : Int))) = d.1 + (10 + (c : Int)) := by rw [IntKind.wrap_i64]; omega
        by_cases c2 : 10 + (c : Int) = t
        · have e2 : (d.1 + (10 + (c : Int)) == k) = true := by have := HK.out; simp; omega
          have HB : Hid (tB t (c + 1) = t) := tB_at c2
          generalize tB t c = x
          go_wp2
          go_round
          case rel => exact ⟨c + 1, by omega, by go_num, by rw [HB.out]⟩
          case measure => simp [intOf]; omega
        · have e2 : (d.1 + (10 + (c : Int)) == k) = false := by have := HK.out; simp; omega
          have HB : Hid (tB t (c + 1) = tB t c) := tB_next (by omega)
          generalize tB t c = x at HB ⊢
          go_wp2
          go_round
          case rel => exact ⟨c + 1, by omega, by go_num, by rw [HB.out]⟩
          case measure => simp [intOf]; omega
      · have HB : Hid (tB t (c + 1) = tB t c) := tB_next (by have := HK.out; omega)
        generalize tB t c = x at HB ⊢
        go_wp2
        go_round
        case rel => exact ⟨c + 1, by omega, by go_num, by rw [HB.out]⟩
        case measure => simp [intOf]; omega
    · obtain rfl : c = 9991 := by omega
      clear hc hl c8_B0_1
      rw [tB_last hu]
      have hz : (t == 0) = false := by simp; omega
      rcases Bool.eq_false_or_eq_true r3.2 with hc1 | hc1
      · have Hhc1 : Hid (r3.2 = true) := hc1
        have c9_B0_0 : w3.cell? ⟨w.heap.size, 0, none⟩ = some (.bool false) := B0_3.c 0 (of_decide_eq_true rfl)
        have c9_B2_0 : w3.cell? ⟨w.heap.size + 1 + 1, 0, none⟩ = some (.bool false) := B2_3.c 0 (of_decide_eq_true rfl)
        have c9_B2_1 : w3.cell? ⟨w.heap.size + 1 + 1, 1, none⟩ = some (.int .i64 0) := B2_3.c 1 (of_decide_eq_true rfl)
        have c9_B2_2 : w3.cell? ⟨w.heap.size + 1 + 1, 2, none⟩ = some (.int .i64 0) := B2_3.c 2 (of_decide_eq_true rfl)
        have c9_B2_3 : w3.cell? ⟨w.heap.size + 1 + 1, 3, none⟩ = some (.int .i64 0) := B2_3.c 3 (of_decide_eq_true rfl)
        have c9_B2_4 : w3.cell? ⟨w.heap.size + 1 + 1, 4, none⟩ = some (.int .i64 0) := B2_3.c 4 (of_decide_eq_true rfl)
        have c9_B2_5 : w3.cell? ⟨w.heap.size + 1 + 1, 5, none⟩ = some (.int .i64 0) := B2_3.c 5 (of_decide_eq_true rfl)
        have c9_B2_6 : w3.cell? ⟨w.heap.size + 1 + 1, 6, none⟩ = some (.int .i64 0) := B2_3.c 6 (of_decide_eq_true rfl)
        have c9_B2_7 : w3.cell? ⟨w.heap.size + 1 + 1, 7, none⟩ = some (.int .i64 0) := B2_3.c 7 (of_decide_eq_true rfl)
        have c9_BF := f3.cell
        have g9_B2_0 := B2_3.f 0 (of_decide_eq_true rfl)
        have g9_B2_1 := B2_3.f 1 (of_decide_eq_true rfl)
        have g9_B2_2 := B2_3.f 2 (of_decide_eq_true rfl)
        have g9_B2_3 := B2_3.f 3 (of_decide_eq_true rfl)
        have g9_B2_4 := B2_3.f 4 (of_decide_eq_true rfl)
        have g9_B2_5 := B2_3.f 5 (of_decide_eq_true rfl)
        have g9_B2_6 := B2_3.f 6 (of_decide_eq_true rfl)
        have g9_B2_7 := B2_3.f 7 (of_decide_eq_true rfl)
        go_wp2_with (with_reducible refine post_stop ?_)
        refine Stop.mk ?_
        clear c9_B0_0 c9_B2_0 c9_B2_1 c9_B2_2 c9_B2_3 c9_B2_4 c9_B2_5 c9_B2_6 c9_B2_7 c9_BF g9_B2_0 g9_B2_1 g9_B2_2 g9_B2_3 g9_B2_4 g9_B2_5 g9_B2_6 g9_B2_7
        refine bodyPost_ret (v := .agg #[.bool false, .int .i64 0, .int .i64 0, .int .i64 0, .int .i64 0, .int .i64 0, .int .i64 0, .int .i64 0]) (results_arr Try.results9 ((((((((B2_3.put 0 (of_decide_eq_true rfl) (.bool false) [.bool false, .int .i64 0, .int .i64 0, .int .i64 0, .int .i64 0, .int .i64 0, .int .i64 0, .int .i64 0] rfl).put 1 (of_decide_eq_true rfl) (.int .i64 0) [.bool false, .int .i64 0, .int .i64 0, .int .i64 0, .int .i64 0, .int .i64 0, .int .i64 0, .int .i64 0] rfl).put 2 (of_decide_eq_true rfl) (.int .i64 0) [.bool false, .int .i64 0, .int .i64 0, .int .i64 0, .int .i64 0, .int .i64 0, .int .i64 0, .int .i64 0] rfl).put 3 (of_decide_eq_true rfl) (.int .i64 0) [.bool false, .int .i64 0, .int .i64 0, .int .i64 0, .int .i64 0, .int .i64 0, .int .i64 0, .int .i64 0] rfl).put 4 (of_decide_eq_true rfl) (.int .i64 0) [.bool false, .int .i64 0, .int .i64 0, .int .i64 0, .int .i64 0, .int .i64 0, .int .i64 0, .int .i64 0] rfl).put 5 (of_decide_eq_true rfl) (.int .i64 0) [.bool false, .int .i64 0, .int .i64 0, .int .i64 0, .int .i64 0, .int .i64 0, .int .i64 0, .int .i64 0] rfl).put 6 (of_decide_eq_true rfl) (.int .i64 0) [.bool false, .int .i64 0, .int .i64 0, .int .i64 0, .int .i64 0, .int .i64 0, .int .i64 0, .int .i64 0] rfl).put 7 (of_decide_eq_true rfl) (.int .i64 0) [.bool false, .int .i64 0, .int .i64 0, .int .i64 0, .int .i64 0, .int .i64 0, .int .i64 0, .int .i64 0] rfl) rfl (by kernel_rfl) (by kernel_rfl)) rfl ?_
        have hs : rStep0 bad v k = ((false, 0, 0, 0, 0, 0, 0, 0), r3.2) := by unfold rStep0; simp only [E1.out, E2.out, E3.out]; rw [if_pos Hhc1.out]
        rw [hs]
        exact ⟨rfl, ((((((((f3.new (w.heap.size + 1 + 1) 0 (Nat.ne_of_lt y3_BF) (.bool false)).new (w.heap.size + 1 + 1) 1 (Nat.ne_of_lt y3_BF) (.int .i64 0)).new (w.heap.size + 1 + 1) 2 (Nat.ne_of_lt y3_BF) (.int .i64 0)).new (w.heap.size + 1 + 1) 3 (Nat.ne_of_lt y3_BF) (.int .i64 0)).new (w.heap.size + 1 + 1) 4 (Nat.ne_of_lt y3_BF) (.int .i64 0)).new (w.heap.size + 1 + 1) 5 (Nat.ne_of_lt y3_BF) (.int .i64 0)).new (w.heap.size + 1 + 1) 6 (Nat.ne_of_lt y3_BF) (.int .i64 0)).new (w.heap.size + 1 + 1) 7 (Nat.ne_of_lt y3_BF) (.int .i64 0)), ((((((((K3.new _ _ (by omega) _).new _ _ (by omega) _).new _ _ (by omega) _).new _ _ (by omega) _).new _ _ (by omega) _).new _ _ (by omega) _).new _ _ (by omega) _).new _ _ (by omega) _)⟩
      · have Hhc1 : Hid (r3.2 = false) := hc1
        have c9_B0_0 : w3.cell? ⟨w.heap.size, 0, none⟩ = some (.bool false) := B0_3.c 0 (of_decide_eq_true rfl)
        have c9_B1_0 : w3.cell? ⟨w.heap.size + 1, 0, none⟩ = some (.int .i64 v.1) := B1_3.c 0 (of_decide_eq_true rfl)
        have c9_B1_1 : w3.cell? ⟨w.heap.size + 1, 1, none⟩ = some (.int .i64 v.2.1) := B1_3.c 1 (of_decide_eq_true rfl)
        have c9_B1_2 : w3.cell? ⟨w.heap.size + 1, 2, none⟩ = some (.int .i64 v.2.2) := B1_3.c 2 (of_decide_eq_true rfl)
        have c9_B2_0 : w3.cell? ⟨w.heap.size + 1 + 1, 0, none⟩ = some (.bool false) := B2_3.c 0 (of_decide_eq_true rfl)
        have c9_B2_1 : w3.cell? ⟨w.heap.size + 1 + 1, 1, none⟩ = some (.int .i64 0) := B2_3.c 1 (of_decide_eq_true rfl)
        have c9_B2_2 : w3.cell? ⟨w.heap.size + 1 + 1, 2, none⟩ = some (.int .i64 0) := B2_3.c 2 (of_decide_eq_true rfl)
        have c9_B2_3 : w3.cell? ⟨w.heap.size + 1 + 1, 3, none⟩ = some (.int .i64 0) := B2_3.c 3 (of_decide_eq_true rfl)
        have c9_B2_4 : w3.cell? ⟨w.heap.size + 1 + 1, 4, none⟩ = some (.int .i64 0) := B2_3.c 4 (of_decide_eq_true rfl)
        have c9_B2_5 : w3.cell? ⟨w.heap.size + 1 + 1, 5, none⟩ = some (.int .i64 0) := B2_3.c 5 (of_decide_eq_true rfl)
        have c9_B2_6 : w3.cell? ⟨w.heap.size + 1 + 1, 6, none⟩ = some (.int .i64 0) := B2_3.c 6 (of_decide_eq_true rfl)
        have c9_B2_7 : w3.cell? ⟨w.heap.size + 1 + 1, 7, none⟩ = some (.int .i64 0) := B2_3.c 7 (of_decide_eq_true rfl)
        have c9_BF := f3.cell
        have g9_B2_0 := B2_3.f 0 (of_decide_eq_true rfl)
        have g9_B2_1 := B2_3.f 1 (of_decide_eq_true rfl)
        have g9_B2_2 := B2_3.f 2 (of_decide_eq_true rfl)
        have g9_B2_3 := B2_3.f 3 (of_decide_eq_true rfl)
        have g9_B2_4 := B2_3.f 4 (of_decide_eq_true rfl)
        have g9_B2_5 := B2_3.f 5 (of_decide_eq_true rfl)
        have g9_B2_6 := B2_3.f 6 (of_decide_eq_true rfl)
        have g9_B2_7 := B2_3.f 7 (of_decide_eq_true rfl)
        go_wp2_with (with_reducible refine post_stop ?_)
        refine Stop.mk ?_
        clear c9_B0_0 c9_B1_0 c9_B1_1 c9_B1_2 c9_B2_0 c9_B2_1 c9_B2_2 c9_B2_3 c9_B2_4 c9_B2_5 c9_B2_6 c9_B2_7 c9_BF g9_B2_0 g9_B2_1 g9_B2_2 g9_B2_3 g9_B2_4 g9_B2_5 g9_B2_6 g9_B2_7
        refine bodyPost_ret (v := .agg #[.bool true, .int .i64 k, .int .i64 v.1, .int .i64 v.2.1, .int .i64 v.2.2, .int .i64 0, .int .i64 0, .int .i64 0]) (results_arr Try.results9 ((((((((B2_3.put 0 (of_decide_eq_true rfl) (.bool true) [.bool true, .int .i64 0, .int .i64 0, .int .i64 0, .int .i64 0, .int .i64 0, .int .i64 0, .int .i64 0] rfl).put 1 (of_decide_eq_true rfl) (.int .i64 k) [.bool true, .int .i64 k, .int .i64 0, .int .i64 0, .int .i64 0, .int .i64 0, .int .i64 0, .int .i64 0] rfl).put 2 (of_decide_eq_true rfl) (.int .i64 v.1) [.bool true, .int .i64 k, .int .i64 v.1, .int .i64 0, .int .i64 0, .int .i64 0, .int .i64 0, .int .i64 0] rfl).put 3 (of_decide_eq_true rfl) (.int .i64 v.2.1) [.bool true, .int .i64 k, .int .i64 v.1, .int .i64 v.2.1, .int .i64 0, .int .i64 0, .int .i64 0, .int .i64 0] rfl).put 4 (of_decide_eq_true rfl) (.int .i64 v.2.2) [.bool true, .int .i64 k, .int .i64 v.1, .int .i64 v.2.1, .int .i64 v.2.2, .int .i64 0, .int .i64 0, .int .i64 0] rfl).put 5 (of_decide_eq_true rfl) (.int .i64 0) [.bool true, .int .i64 k, .int .i64 v.1, .int .i64 v.2.1, .int .i64 v.2.2, .int .i64 0, .int .i64 0, .int .i64 0] rfl).put 6 (of_decide_eq_true rfl) (.int .i64 0) [.bool true, .int .i64 k, .int .i64 v.1, .int .i64 v.2.1, .int .i64 v.2.2, .int .i64 0, .int .i64 0, .int .i64 0] rfl).put 7 (of_decide_eq_true rfl) (.int .i64 0) [.bool true, .int .i64 k, .int .i64 v.1, .int .i64 v.2.1, .int .i64 v.2.2, .int .i64 0, .int .i64 0, .int .i64 0] rfl) rfl (by kernel_rfl) (by kernel_rfl)) rfl ?_
        have hs : rStep0 bad v k = ((true, k, v.1, v.2.1, v.2.2, 0, 0, 0), r3.2) := by unfold rStep0; simp only [E1.out, E2.out, E3.out]; rw [if_neg (by rw [Hhc1.out]; decide)]
        rw [hs]
        exact ⟨rfl, ((((((((f3.new (w.heap.size + 1 + 1) 0 (Nat.ne_of_lt y3_BF) (.bool true)).new (w.heap.size + 1 + 1) 1 (Nat.ne_of_lt y3_BF) (.int .i64 k)).new (w.heap.size + 1 + 1) 2 (Nat.ne_of_lt y3_BF) (.int .i64 v.1)).new (w.heap.size + 1 + 1) 3 (Nat.ne_of_lt y3_BF) (.int .i64 v.2.1)).new (w.heap.size + 1 + 1) 4 (Nat.ne_of_lt y3_BF) (.int .i64 v.2.2)).new (w.heap.size + 1 + 1) 5 (Nat.ne_of_lt y3_BF) (.int .i64 0)).new (w.heap.size + 1 + 1) 6 (Nat.ne_of_lt y3_BF) (.int .i64 0)).new (w.heap.size + 1 + 1) 7 (Nat.ne_of_lt y3_BF) (.int .i64 0)), ((((((((K3.new _ _ (by omega) _).new _ _ (by omega) _).new _ _ (by omega) _).new _ _ (by omega) _).new _ _ (by omega) _).new _ _ (by omega) _).new _ _ (by omega) _).new _ _ (by omega) _)⟩
set_option maxRecDepth 100000 in
set_option maxHeartbeats 2000000 in
theorem rStep_out (b : Nat) (bad : Bool) (d : D7) (v : V3) (k : Int) (w : World) (hw : Fl b bad w) (hd : -9223372036854775808 ≤ d.1 ∧ d.1 ≤ 9223372036854775807) (hk : -9223372036854775808 ≤ k ∧ k ≤ 9223372036854775807) (HK : Hid (¬ (10 ≤ k - d.1 ∧ k - d.1 ≤ 10000))) :
    Calls Try.prog 9 #[.pointer (some ⟨b, 0, none⟩), .agg #[.bool true, .int .i64 d.1, .int .i64 d.2.1, .int .i64 d.2.2.1, .int .i64 d.2.2.2.1, .int .i64 d.2.2.2.2.1, .int .i64 d.2.2.2.2.2.1, .int .i64 d.2.2.2.2.2.2], .agg #[.int .i64 v.1, .int .i64 v.2.1, .int .i64 v.2.2], .int .i64 k] w fun e w' => e = .returned (.agg #[.bool ((rStep0 bad v k).1.1), .int .i64 ((rStep0 bad v k).1.2.1), .int .i64 ((rStep0 bad v k).1.2.2.1), .int .i64 ((rStep0 bad v k).1.2.2.2.1), .int .i64 ((rStep0 bad v k).1.2.2.2.2.1), .int .i64 ((rStep0 bad v k).1.2.2.2.2.2.1), .int .i64 ((rStep0 bad v k).1.2.2.2.2.2.2.1), .int .i64 ((rStep0 bad v k).1.2.2.2.2.2.2.2)]) ∧ Fl b (rStep0 bad v k).2 w' ∧ Kept b w w' := by
  have hl := hw.lies
  go_enter Try.func9, Try.ntmps9
  have y1_BF : b < w.heap.size := hw.lies
  have y2_BF : b < w.heap.size + 1 := (Nat.lt_succ_of_lt hw.lies)
  have y2_B0 : w.heap.size < w.heap.size + 1 := (Nat.lt_succ_self _)
  have y3_BF : b < w.heap.size + 1 + 1 := (Nat.lt_succ_of_lt (Nat.lt_succ_of_lt hw.lies))
  have y3_B0 : w.heap.size < w.heap.size + 1 + 1 := (Nat.lt_succ_of_lt (Nat.lt_succ_self _))
  have y3_B1 : w.heap.size + 1 < w.heap.size + 1 + 1 := (Nat.lt_succ_self _)
  go_wp2_with fail
  refine wp_loop_rounds 4 ?_
  rw [rounds_succ]
  go_wp2_with fail
  refine (rAdd_any b bad v.1 0 _ (((hw.alloc _).alloc _).alloc _)).mono ?_
  rintro e w1 ⟨rfl, f1, k1⟩
  generalize e1 : addS bad v.1 0 = r1 at f1 ⊢
  have E1 : Hid _ := e1
  clear e1
  have K1 : Kept b w w1 := Kept.trans ((((Kept.refl b w).al _).al _).al _) k1
  have B0_1 : Arr w.heap.size [.bool true, .int .i64 d.1, .int .i64 d.2.1, .int .i64 d.2.2.1, .int .i64 d.2.2.2.1, .int .i64 d.2.2.2.2.1, .int .i64 d.2.2.2.2.2.1, .int .i64 d.2.2.2.2.2.2] w1 := (((Arr_at _ _ [.bool true, .int .i64 d.1, .int .i64 d.2.1, .int .i64 d.2.2.1, .int .i64 d.2.2.2.1, .int .i64 d.2.2.2.2.1, .int .i64 d.2.2.2.2.2.1, .int .i64 d.2.2.2.2.2.2] _ (by simp)).alloc _).alloc _).kept k1 (Nat.ne_of_gt y1_BF)
  have B1_1 : Arr (w.heap.size + 1) [.int .i64 v.1, .int .i64 v.2.1, .int .i64 v.2.2] w1 := ((Arr_at _ _ [.int .i64 v.1, .int .i64 v.2.1, .int .i64 v.2.2] _ (by simp)).alloc _).kept k1 (Nat.ne_of_gt y2_BF)
  have B2_1 : Arr (w.heap.size + 1 + 1) [.bool false, .int .i64 0, .int .i64 0, .int .i64 0, .int .i64 0, .int .i64 0, .int .i64 0, .int .i64 0] w1 := (Arr_at _ _ [.bool false, .int .i64 0, .int .i64 0, .int .i64 0, .int .i64 0, .int .i64 0, .int .i64 0, .int .i64 0] _ (by simp)).kept k1 (Nat.ne_of_gt y3_BF)
  have z1 := B2_1.lies
  clear k1
  go_wp2_with fail
  rw [rounds_succ]
  have c4_B1_1 : w1.cell? ⟨w.heap.size + 1, 1, none⟩ = some (.int .i64 v.2.1) := B1_1.c 1 (of_decide_eq_true rfl)
  go_wp2_with fail
  refine (rAdd_any b r1.2 v.2.1 0 _ f1).mono ?_
  rintro e w2 ⟨rfl, f2, k2⟩
  generalize e2 : addS r1.2 v.2.1 0 = r2 at f2 ⊢
  have E2 : Hid _ := e2
  clear e2
  have K2 : Kept b w w2 := Kept.trans K1 k2
  have B0_2 : Arr w.heap.size [.bool true, .int .i64 d.1, .int .i64 d.2.1, .int .i64 d.2.2.1, .int .i64 d.2.2.2.1, .int .i64 d.2.2.2.2.1, .int .i64 d.2.2.2.2.2.1, .int .i64 d.2.2.2.2.2.2] w2 := B0_1.kept k2 (Nat.ne_of_gt y1_BF)
  have B1_2 : Arr (w.heap.size + 1) [.int .i64 v.1, .int .i64 v.2.1, .int .i64 v.2.2] w2 := B1_1.kept k2 (Nat.ne_of_gt y2_BF)
  have B2_2 : Arr (w.heap.size + 1 + 1) [.bool false, .int .i64 0, .int .i64 0, .int .i64 0, .int .i64 0, .int .i64 0, .int .i64 0, .int .i64 0] w2 := B2_1.kept k2 (Nat.ne_of_gt y3_BF)
  have z2 := B2_2.lies
  clear c4_B1_1 K1 f1 B0_1 B1_1 B2_1 k2
  go_wp2_with fail
  rw [rounds_succ]
  have c6_B1_2 : w2.cell? ⟨w.heap.size + 1, 2, none⟩ = some (.int .i64 v.2.2) := B1_2.c 2 (of_decide_eq_true rfl)
  go_wp2_with fail
  refine (rAdd_any b r2.2 v.2.2 0 _ f2).mono ?_
  rintro e w3 ⟨rfl, f3, k3⟩
  generalize e3 : addS r2.2 v.2.2 0 = r3 at f3 ⊢
  have E3 : Hid _ := e3
  clear e3
  have K3 : Kept b w w3 := Kept.trans K2 k3
  have B0_3 : Arr w.heap.size [.bool true, .int .i64 d.1, .int .i64 d.2.1, .int .i64 d.2.2.1, .int .i64 d.2.2.2.1, .int .i64 d.2.2.2.2.1, .int .i64 d.2.2.2.2.2.1, .int .i64 d.2.2.2.2.2.2] w3 := B0_2.kept k3 (Nat.ne_of_gt y1_BF)
  have B1_3 : Arr (w.heap.size + 1) [.int .i64 v.1, .int .i64 v.2.1, .int .i64 v.2.2] w3 := B1_2.kept k3 (Nat.ne_of_gt y2_BF)
  have B2_3 : Arr (w.heap.size + 1 + 1) [.bool false, .int .i64 0, .int .i64 0, .int .i64 0, .int .i64 0, .int .i64 0, .int .i64 0, .int .i64 0] w3 := B2_2.kept k3 (Nat.ne_of_gt y3_BF)
  have z3 := B2_3.lies
  clear c6_B1_2 K2 f2 B0_2 B1_2 B2_2 k3
  go_wp2_with fail
  rw [rounds_succ]
  have c8_B0_1 : w3.cell? ⟨w.heap.size, 1, none⟩ = some (.int .i64 d.1) := B0_3.c 1 (of_decide_eq_true rfl)
  go_wp2_with fail
  go_loop [11, 10] (fun i x => ∃ c : Nat, c ≤ 9991 ∧ i = .int .i64 (10 + (c : Int)) ∧ x = .int .i64 0) (fun i _ => 10001 - (intOf i).toNat)
  case atStart => exact ⟨0, by omega, rfl, rfl⟩
  case round =>
    obtain ⟨c, hc, rfl, rfl⟩ := hrel
    by_cases hl : c < 9991
    · have w1 : IntKind.i64.wrap (9223372036854775807 - (10 + (c : Int))) = 9223372036854775807 - (10 + (c : Int)) := by rw [IntKind.wrap_i64]; omega
      by_cases c1 : d.1 ≤ 9223372036854775807 - (10 + (c : Int))
      · have w2 : IntKind.i64.wrap (d.1 + (10 + (c : Int))) = d.1 + (10 + (c : Int)) := by rw [IntKind.wrap_i64]; omega
        have e2 : (d.1 + (10 + (c : Int)) == k) = false := by have := HK.out; simp; omega
        go_wp2
        go_round
        case rel => exact ⟨c + 1, by omega, by go_num, rfl⟩
        case measure => simp [intOf]; omega
      · go_wp2
        go_round
        case rel => exact ⟨c + 1, by omega, by go_num, rfl⟩
        case measure => simp [intOf]; omega
    · obtain rfl : c = 9991 := by omega
      clear hc hl c8_B0_1
      rcases Bool.eq_false_or_eq_true r3.2 with hc1 | hc1
      · have Hhc1 : Hid (r3.2 = true) := hc1
        have c9_B0_0 : w3.cell? ⟨w.heap.size, 0, none⟩ = some (.bool true) := B0_3.c 0 (of_decide_eq_true rfl)
        have c9_B2_0 : w3.cell? ⟨w.heap.size + 1 + 1, 0, none⟩ = some (.bool false) := B2_3.c 0 (of_decide_eq_true rfl)
        have c9_B2_1 : w3.cell? ⟨w.heap.size + 1 + 1, 1, none⟩ = some (.int .i64 0) := B2_3.c 1 (of_decide_eq_true rfl)
        have c9_B2_2 : w3.cell? ⟨w.heap.size + 1 + 1, 2, none⟩ = some (.int .i64 0) := B2_3.c 2 (of_decide_eq_true rfl)
        have c9_B2_3 : w3.cell? ⟨w.heap.size + 1 + 1, 3, none⟩ = some (.int .i64 0) := B2_3.c 3 (of_decide_eq_true rfl)
        have c9_B2_4 : w3.cell? ⟨w.heap.size + 1 + 1, 4, none⟩ = some (.int .i64 0) := B2_3.c 4 (of_decide_eq_true rfl)
        have c9_B2_5 : w3.cell? ⟨w.heap.size + 1 + 1, 5, none⟩ = some (.int .i64 0) := B2_3.c 5 (of_decide_eq_true rfl)
        have c9_B2_6 : w3.cell? ⟨w.heap.size + 1 + 1, 6, none⟩ = some (.int .i64 0) := B2_3.c 6 (of_decide_eq_true rfl)
        have c9_B2_7 : w3.cell? ⟨w.heap.size + 1 + 1, 7, none⟩ = some (.int .i64 0) := B2_3.c 7 (of_decide_eq_true rfl)
        have c9_BF := f3.cell
        have g9_B2_0 := B2_3.f 0 (of_decide_eq_true rfl)
        have g9_B2_1 := B2_3.f 1 (of_decide_eq_true rfl)
        have g9_B2_2 := B2_3.f 2 (of_decide_eq_true rfl)
        have g9_B2_3 := B2_3.f 3 (of_decide_eq_true rfl)
        have g9_B2_4 := B2_3.f 4 (of_decide_eq_true rfl)
        have g9_B2_5 := B2_3.f 5 (of_decide_eq_true rfl)
        have g9_B2_6 := B2_3.f 6 (of_decide_eq_true rfl)
        have g9_B2_7 := B2_3.f 7 (of_decide_eq_true rfl)
        go_wp2_with (with_reducible refine post_stop ?_)
        refine Stop.mk ?_
        clear c9_B0_0 c9_B2_0 c9_B2_1 c9_B2_2 c9_B2_3 c9_B2_4 c9_B2_5 c9_B2_6 c9_B2_7 c9_BF g9_B2_0 g9_B2_1 g9_B2_2 g9_B2_3 g9_B2_4 g9_B2_5 g9_B2_6 g9_B2_7
        refine bodyPost_ret (v := .agg #[.bool false, .int .i64 0, .int .i64 0, .int .i64 0, .int .i64 0, .int .i64 0, .int .i64 0, .int .i64 0]) (results_arr Try.results9 ((((((((B2_3.put 0 (of_decide_eq_true rfl) (.bool false) [.bool false, .int .i64 0, .int .i64 0, .int .i64 0, .int .i64 0, .int .i64 0, .int .i64 0, .int .i64 0] rfl).put 1 (of_decide_eq_true rfl) (.int .i64 0) [.bool false, .int .i64 0, .int .i64 0, .int .i64 0, .int .i64 0, .int .i64 0, .int .i64 0, .int .i64 0] rfl).put 2 (of_decide_eq_true rfl) (.int .i64 0) [.bool false, .int .i64 0, .int .i64 0, .int .i64 0, .int .i64 0, .int .i64 0, .int .i64 0, .int .i64 0] rfl).put 3 (of_decide_eq_true rfl) (.int .i64 0) [.bool false, .int .i64 0, .int .i64 0, .int .i64 0, .int .i64 0, .int .i64 0, .int .i64 0, .int .i64 0] rfl).put 4 (of_decide_eq_true rfl) (.int .i64 0) [.bool false, .int .i64 0, .int .i64 0, .int .i64 0, .int .i64 0, .int .i64 0, .int .i64 0, .int .i64 0] rfl).put 5 (of_decide_eq_true rfl) (.int .i64 0) [.bool false, .int .i64 0, .int .i64 0, .int .i64 0, .int .i64 0, .int .i64 0, .int .i64 0, .int .i64 0] rfl).put 6 (of_decide_eq_true rfl) (.int .i64 0) [.bool false, .int .i64 0, .int .i64 0, .int .i64 0, .int .i64 0, .int .i64 0, .int .i64 0, .int .i64 0] rfl).put 7 (of_decide_eq_true rfl) (.int .i64 0) [.bool false, .int .i64 0, .int .i64 0, .int .i64 0, .int .i64 0, .int .i64 0, .int .i64 0, .int .i64 0] rfl) rfl (by kernel_rfl) (by kernel_rfl)) rfl ?_
        have hs : rStep0 bad v k = ((false, 0, 0, 0, 0, 0, 0, 0), r3.2) := by unfold rStep0; simp only [E1.out, E2.out, E3.out]; rw [if_pos Hhc1.out]
        rw [hs]
        exact ⟨rfl, ((((((((f3.new (w.heap.size + 1 + 1) 0 (Nat.ne_of_lt y3_BF) (.bool false)).new (w.heap.size + 1 + 1) 1 (Nat.ne_of_lt y3_BF) (.int .i64 0)).new (w.heap.size + 1 + 1) 2 (Nat.ne_of_lt y3_BF) (.int .i64 0)).new (w.heap.size + 1 + 1) 3 (Nat.ne_of_lt y3_BF) (.int .i64 0)).new (w.heap.size + 1 + 1) 4 (Nat.ne_of_lt y3_BF) (.int .i64 0)).new (w.heap.size + 1 + 1) 5 (Nat.ne_of_lt y3_BF) (.int .i64 0)).new (w.heap.size + 1 + 1) 6 (Nat.ne_of_lt y3_BF) (.int .i64 0)).new (w.heap.size + 1 + 1) 7 (Nat.ne_of_lt y3_BF) (.int .i64 0)), ((((((((K3.new _ _ (by omega) _).new _ _ (by omega) _).new _ _ (by omega) _).new _ _ (by omega) _).new _ _ (by omega) _).new _ _ (by omega) _).new _ _ (by omega) _).new _ _ (by omega) _)⟩
      · have Hhc1 : Hid (r3.2 = false) := hc1
        have c9_B0_0 : w3.cell? ⟨w.heap.size, 0, none⟩ = some (.bool true) := B0_3.c 0 (of_decide_eq_true rfl)
        have c9_B1_0 : w3.cell? ⟨w.heap.size + 1, 0, none⟩ = some (.int .i64 v.1) := B1_3.c 0 (of_decide_eq_true rfl)
        have c9_B1_1 : w3.cell? ⟨w.heap.size + 1, 1, none⟩ = some (.int .i64 v.2.1) := B1_3.c 1 (of_decide_eq_true rfl)
        have c9_B1_2 : w3.cell? ⟨w.heap.size + 1, 2, none⟩ = some (.int .i64 v.2.2) := B1_3.c 2 (of_decide_eq_true rfl)
        have c9_B2_0 : w3.cell? ⟨w.heap.size + 1 + 1, 0, none⟩ = some (.bool false) := B2_3.c 0 (of_decide_eq_true rfl)
        have c9_B2_1 : w3.cell? ⟨w.heap.size + 1 + 1, 1, none⟩ = some (.int .i64 0) := B2_3.c 1 (of_decide_eq_true rfl)
        have c9_B2_2 : w3.cell? ⟨w.heap.size + 1 + 1, 2, none⟩ = some (.int .i64 0) := B2_3.c 2 (of_decide_eq_true rfl)
        have c9_B2_3 : w3.cell? ⟨w.heap.size + 1 + 1, 3, none⟩ = some (.int .i64 0) := B2_3.c 3 (of_decide_eq_true rfl)
        have c9_B2_4 : w3.cell? ⟨w.heap.size + 1 + 1, 4, none⟩ = some (.int .i64 0) := B2_3.c 4 (of_decide_eq_true rfl)
        have c9_B2_5 : w3.cell? ⟨w.heap.size + 1 + 1, 5, none⟩ = some (.int .i64 0) := B2_3.c 5 (of_decide_eq_true rfl)
        have c9_B2_6 : w3.cell? ⟨w.heap.size + 1 + 1, 6, none⟩ = some (.int .i64 0) := B2_3.c 6 (of_decide_eq_true rfl)
        have c9_B2_7 : w3.cell? ⟨w.heap.size + 1 + 1, 7, none⟩ = some (.int .i64 0) := B2_3.c 7 (of_decide_eq_true rfl)
        have c9_BF := f3.cell
        have g9_B2_0 := B2_3.f 0 (of_decide_eq_true rfl)
        have g9_B2_1 := B2_3.f 1 (of_decide_eq_true rfl)
        have g9_B2_2 := B2_3.f 2 (of_decide_eq_true rfl)
        have g9_B2_3 := B2_3.f 3 (of_decide_eq_true rfl)
        have g9_B2_4 := B2_3.f 4 (of_decide_eq_true rfl)
        have g9_B2_5 := B2_3.f 5 (of_decide_eq_true rfl)
        have g9_B2_6 := B2_3.f 6 (of_decide_eq_true rfl)
        have g9_B2_7 := B2_3.f 7 (of_decide_eq_true rfl)
        go_wp2_with (with_reducible refine post_stop ?_)
        refine Stop.mk ?_
        clear c9_B0_0 c9_B1_0 c9_B1_1 c9_B1_2 c9_B2_0 c9_B2_1 c9_B2_2 c9_B2_3 c9_B2_4 c9_B2_5 c9_B2_6 c9_B2_7 c9_BF g9_B2_0 g9_B2_1 g9_B2_2 g9_B2_3 g9_B2_4 g9_B2_5 g9_B2_6 g9_B2_7
        refine bodyPost_ret (v := .agg #[.bool true, .int .i64 k, .int .i64 v.1, .int .i64 v.2.1, .int .i64 v.2.2, .int .i64 0, .int .i64 0, .int .i64 0]) (results_arr Try.results9 ((((((((B2_3.put 0 (of_decide_eq_true rfl) (.bool true) [.bool true, .int .i64 0, .int .i64 0, .int .i64 0, .int .i64 0, .int .i64 0, .int .i64 0, .int .i64 0] rfl).put 1 (of_decide_eq_true rfl) (.int .i64 k) [.bool true, .int .i64 k, .int .i64 0, .int .i64 0, .int .i64 0, .int .i64 0, .int .i64 0, .int .i64 0] rfl).put 2 (of_decide_eq_true rfl) (.int .i64 v.1) [.bool true, .int .i64 k, .int .i64 v.1, .int .i64 0, .int .i64 0, .int .i64 0, .int .i64 0, .int .i64 0] rfl).put 3 (of_decide_eq_true rfl) (.int .i64 v.2.1) [.bool true, .int .i64 k, .int .i64 v.1, .int .i64 v.2.1, .int .i64 0, .int .i64 0, .int .i64 0, .int .i64 0] rfl).put 4 (of_decide_eq_true rfl) (.int .i64 v.2.2) [.bool true, .int .i64 k, .int .i64 v.1, .int .i64 v.2.1, .int .i64 v.2.2, .int .i64 0, .int .i64 0, .int .i64 0] rfl).put 5 (of_decide_eq_true rfl) (.int .i64 0) [.bool true, .int .i64 k, .int .i64 v.1, .int .i64 v.2.1, .int .i64 v.2.2, .int .i64 0, .int .i64 0, .int .i64 0] rfl).put 6 (of_decide_eq_true rfl) (.int .i64 0) [.bool true, .int .i64 k, .int .i64 v.1, .int .i64 v.2.1, .int .i64 v.2.2, .int .i64 0, .int .i64 0, .int .i64 0] rfl).put 7 (of_decide_eq_true rfl) (.int .i64 0) [.bool true, .int .i64 k, .int .i64 v.1, .int .i64 v.2.1, .int .i64 v.2.2, .int .i64 0, .int .i64 0, .int .i64 0] rfl) rfl (by kernel_rfl) (by kernel_rfl)) rfl ?_
        have hs : rStep0 bad v k = ((true, k, v.1, v.2.1, v.2.2, 0, 0, 0), r3.2) := by unfold rStep0; simp only [E1.out, E2.out, E3.out]; rw [if_neg (by rw [Hhc1.out]; decide)]
        rw [hs]
        exact ⟨rfl, ((((((((f3.new (w.heap.size + 1 + 1) 0 (Nat.ne_of_lt y3_BF) (.bool true)).new (w.heap.size + 1 + 1) 1 (Nat.ne_of_lt y3_BF) (.int .i64 k)).new (w.heap.size + 1 + 1) 2 (Nat.ne_of_lt y3_BF) (.int .i64 v.1)).new (w.heap.size + 1 + 1) 3 (Nat.ne_of_lt y3_BF) (.int .i64 v.2.1)).new (w.heap.size + 1 + 1) 4 (Nat.ne_of_lt y3_BF) (.int .i64 v.2.2)).new (w.heap.size + 1 + 1) 5 (Nat.ne_of_lt y3_BF) (.int .i64 0)).new (w.heap.size + 1 + 1) 6 (Nat.ne_of_lt y3_BF) (.int .i64 0)).new (w.heap.size + 1 + 1) 7 (Nat.ne_of_lt y3_BF) (.int .i64 0)), ((((((((K3.new _ _ (by omega) _).new _ _ (by omega) _).new _ _ (by omega) _).new _ _ (by omega) _).new _ _ (by omega) _).new _ _ (by omega) _).new _ _ (by omega) _).new _ _ (by omega) _)⟩
set_option maxRecDepth 100000 in
set_option maxHeartbeats 2000000 in
theorem rStep_off (b : Nat) (bad : Bool) (d : D7) (v : V3) (k : Int) (w : World) (hw : Fl b bad w) (hd : -9223372036854775808 ≤ d.1 ∧ d.1 ≤ 9223372036854775807) (hk : -9223372036854775808 ≤ k ∧ k ≤ 9223372036854775807) (HK : Hid (¬ (10 ≤ k - d.1 ∧ k - d.1 ≤ 10000))) :
    Calls Try.prog 9 #[.pointer (some ⟨b, 0, none⟩), .agg #[.bool false, .int .i64 d.1, .int .i64 d.2.1, .int .i64 d.2.2.1, .int .i64 d.2.2.2.1, .int .i64 d.2.2.2.2.1, .int .i64 d.2.2.2.2.2.1, .int .i64 d.2.2.2.2.2.2], .agg #[.int .i64 v.1, .int .i64 v.2.1, .int .i64 v.2.2], .int .i64 k] w fun e w' => e = .returned (.agg #[.bool ((rStep0 bad v k).1.1), .int .i64 ((rStep0 bad v k).1.2.1), .int .i64 ((rStep0 bad v k).1.2.2.1), .int .i64 ((rStep0 bad v k).1.2.2.2.1), .int .i64 ((rStep0 bad v k).1.2.2.2.2.1), .int .i64 ((rStep0 bad v k).1.2.2.2.2.2.1), .int .i64 ((rStep0 bad v k).1.2.2.2.2.2.2.1), .int .i64 ((rStep0 bad v k).1.2.2.2.2.2.2.2)]) ∧ Fl b (rStep0 bad v k).2 w' ∧ Kept b w w' := by
  have hl := hw.lies
  go_enter Try.func9, Try.ntmps9
  have y1_BF : b < w.heap.size := hw.lies
  have y2_BF : b < w.heap.size + 1 := (Nat.lt_succ_of_lt hw.lies)
  have y2_B0 : w.heap.size < w.heap.size + 1 := (Nat.lt_succ_self _)
  have y3_BF : b < w.heap.size + 1 + 1 := (Nat.lt_succ_of_lt (Nat.lt_succ_of_lt hw.lies))
  have y3_B0 : w.heap.size < w.heap.size + 1 + 1 := (Nat.lt_succ_of_lt (Nat.lt_succ_self _))
  have y3_B1 : w.heap.size + 1 < w.heap.size + 1 + 1 := (Nat.lt_succ_self _)
  go_wp2_with fail
  refine wp_loop_rounds 4 ?_
  rw [rounds_succ]
  go_wp2_with fail
  refine (rAdd_any b bad v.1 0 _ (((hw.alloc _).alloc _).alloc _)).mono ?_
  rintro e w1 ⟨rfl, f1, k1⟩
  generalize e1 : addS bad v.1 0 = r1 at f1 ⊢
  have E1 : Hid _ := e1
  clear e1
  have K1 : Kept b w w1 := Kept.trans ((((Kept.refl b w).al _).al _).al _) k1
  have B0_1 : Arr w.heap.size [.bool false, .int .i64 d.1, .int .i64 d.2.1, .int .i64 d.2.2.1, .int .i64 d.2.2.2.1, .int .i64 d.2.2.2.2.1, .int .i64 d.2.2.2.2.2.1, .int .i64 d.2.2.2.2.2.2] w1 := (((Arr_at _ _ [.bool false, .int .i64 d.1, .int .i64 d.2.1, .int .i64 d.2.2.1, .int .i64 d.2.2.2.1, .int .i64 d.2.2.2.2.1, .int .i64 d.2.2.2.2.2.1, .int .i64 d.2.2.2.2.2.2] _ (by simp)).alloc _).alloc _).kept k1 (Nat.ne_of_gt y1_BF)
  have B1_1 : Arr (w.heap.size + 1) [.int .i64 v.1, .int .i64 v.2.1, .int .i64 v.2.2] w1 := ((Arr_at _ _ [.int .i64 v.1, .int .i64 v.2.1, .int .i64 v.2.2] _ (by simp)).alloc _).kept k1 (Nat.ne_of_gt y2_BF)
  have B2_1 : Arr (w.heap.size + 1 + 1) [.bool false, .int .i64 0, .int .i64 0, .int .i64 0, .int .i64 0, .int .i64 0, .int .i64 0, .int .i64 0] w1 := (Arr_at _ _ [.bool false, .int .i64 0, .int .i64 0, .int .i64 0, .int .i64 0, .int .i64 0, .int .i64 0, .int .i64 0] _ (by simp)).kept k1 (Nat.ne_of_gt y3_BF)
  have z1 := B2_1.lies
  clear k1
  go_wp2_with fail
  rw [rounds_succ]
  have c4_B1_1 : w1.cell? ⟨w.heap.size + 1, 1, none⟩ = some (.int .i64 v.2.1) := B1_1.c 1 (of_decide_eq_true rfl)
  go_wp2_with fail
  refine (rAdd_any b r1.2 v.2.1 0 _ f1).mono ?_
  rintro e w2 ⟨rfl, f2, k2⟩
  generalize e2 : addS r1.2 v.2.1 0 = r2 at f2 ⊢
  have E2 : Hid _ := e2
  clear e2
  have K2 : Kept b w w2 := Kept.trans K1 k2
  have B0_2 : Arr w.heap.size [.bool false, .int .i64 d.1, .int .i64 d.2.1, .int .i64 d.2.2.1, .int .i64 d.2.2.2.1, .int .i64 d.2.2.2.2.1, .int .i64 d.2.2.2.2.2.1, .int .i64 d.2.2.2.2.2.2] w2 := B0_1.kept k2 (Nat.ne_of_gt y1_BF)
  have B1_2 : Arr (w.heap.size + 1) [.int .i64 v.1, .int .i64 v.2.1, .int .i64 v.2.2] w2 := B1_1.kept k2 (Nat.ne_of_gt y2_BF)
  have B2_2 : Arr (w.heap.size + 1 + 1) [.bool false, .int .i64 0, .int .i64 0, .int .i64 0, .int .i64 0, .int .i64 0, .int .i64 0, .int .i64 0] w2 := B2_1.kept k2 (Nat.ne_of_gt y3_BF)
  have z2 := B2_2.lies
  clear c4_B1_1 K1 f1 B0_1 B1_1 B2_1 k2
  go_wp2_with fail
  rw [rounds_succ]
  have c6_B1_2 : w2.cell? ⟨w.heap.size + 1, 2, none⟩ = some (.int .i64 v.2.2) := B1_2.c 2 (of_decide_eq_true rfl)
  go_wp2_with fail
  refine (rAdd_any b r2.2 v.2.2 0 _ f2).mono ?_
  rintro e w3 ⟨rfl, f3, k3⟩
  generalize e3 : addS r2.2 v.2.2 0 = r3 at f3 ⊢
  have E3 : Hid _ := e3
  clear e3
  have K3 : Kept b w w3 := Kept.trans K2 k3
  have B0_3 : Arr w.heap.size [.bool false, .int .i64 d.1, .int .i64 d.2.1, .int .i64 d.2.2.1, .int .i64 d.2.2.2.1, .int .i64 d.2.2.2.2.1, .int .i64 d.2.2.2.2.2.1, .int .i64 d.2.2.2.2.2.2] w3 := B0_2.kept k3 (Nat.ne_of_gt y1_BF)
  have B1_3 : Arr (w.heap.size + 1) [.int .i64 v.1, .int .i64 v.2.1, .int .i64 v.2.2] w3 := B1_2.kept k3 (Nat.ne_of_gt y2_BF)
  have B2_3 : Arr (w.heap.size + 1 + 1) [.bool false, .int .i64 0, .int .i64 0, .int .i64 0, .int .i64 0, .int .i64 0, .int .i64 0, .int .i64 0] w3 := B2_2.kept k3 (Nat.ne_of_gt y3_BF)
  have z3 := B2_3.lies
  clear c6_B1_2 K2 f2 B0_2 B1_2 B2_2 k3
  go_wp2_with fail
  rw [rounds_succ]
  have c8_B0_1 : w3.cell? ⟨w.heap.size, 1, none⟩ = some (.int .i64 d.1) := B0_3.c 1 (of_decide_eq_true rfl)
  go_wp2_with fail
  go_loop [11, 10] (fun i x => ∃ c : Nat, c ≤ 9991 ∧ i = .int .i64 (10 + (c : Int)) ∧ x = .int .i64 0) (fun i _ => 10001 - (intOf i).toNat)
  case atStart => exact ⟨0, by omega, rfl, rfl⟩
  case round =>
    obtain ⟨c, hc, rfl, rfl⟩ := hrel
    by_cases hl : c < 9991
    · have w1 : IntKind.i64.wrap (9223372036854775807 - (10 + (c : Int))) = 9223372036854775807 - (10 + (c : Int)) := by rw [IntKind.wrap_i64]; omega
      by_cases c1 : d.1 ≤ 9223372036854775807 - (10 + (c : Int))
      · have w2 : IntKind.i64.wrap (d.1 + (10 + (c : Int))) = d.1 + (10 + (c : Int)) := by rw [IntKind.wrap_i64]; omega
        have e2 : (d.1 + (10 + (c : Int)) == k) = false := by have := HK.out; simp; omega
        go_wp2
        go_round
        case rel => exact ⟨c + 1, by omega, by go_num, rfl⟩
        case measure => simp [intOf]; omega
      · go_wp2
        go_round
        case rel => exact ⟨c + 1, by omega, by go_num, rfl⟩
        case measure => simp [intOf]; omega
    · obtain rfl : c = 9991 := by omega
      clear hc hl c8_B0_1
      rcases Bool.eq_false_or_eq_true r3.2 with hc1 | hc1
      · have Hhc1 : Hid (r3.2 = true) := hc1
        have c9_B0_0 : w3.cell? ⟨w.heap.size, 0, none⟩ = some (.bool false) := B0_3.c 0 (of_decide_eq_true rfl)
        have c9_B2_0 : w3.cell? ⟨w.heap.size + 1 + 1, 0, none⟩ = some (.bool false) := B2_3.c 0 (of_decide_eq_true rfl)
        have c9_B2_1 : w3.cell? ⟨w.heap.size + 1 + 1, 1, none⟩ = some (.int .i64 0) := B2_3.c 1 (of_decide_eq_true rfl)
        have c9_B2_2 : w3.cell? ⟨w.heap.size + 1 + 1, 2, none⟩ = some (.int .i64 0) := B2_3.c 2 (of_decide_eq_true rfl)
        have c9_B2_3 : w3.cell? ⟨w.heap.size + 1 + 1, 3, none⟩ = some (.int .i64 0) := B2_3.c 3 (of_decide_eq_true rfl)
        have c9_B2_4 : w3.cell? ⟨w.heap.size + 1 + 1, 4, none⟩ = some (.int .i64 0) := B2_3.c 4 (of_decide_eq_true rfl)
        have c9_B2_5 : w3.cell? ⟨w.heap.size + 1 + 1, 5, none⟩ = some (.int .i64 0) := B2_3.c 5 (of_decide_eq_true rfl)
        have c9_B2_6 : w3.cell? ⟨w.heap.size + 1 + 1, 6, none⟩ = some (.int .i64 0) := B2_3.c 6 (of_decide_eq_true rfl)
        have c9_B2_7 : w3.cell? ⟨w.heap.size + 1 + 1, 7, none⟩ = some (.int .i64 0) := B2_3.c 7 (of_decide_eq_true rfl)
        have c9_BF := f3.cell
        have g9_B2_0 := B2_3.f 0 (of_decide_eq_true rfl)
        have g9_B2_1 := B2_3.f 1 (of_decide_eq_true rfl)
        have g9_B2_2 := B2_3.f 2 (of_decide_eq_true rfl)
        have g9_B2_3 := B2_3.f 3 (of_decide_eq_true rfl)
        have g9_B2_4 := B2_3.f 4 (of_decide_eq_true rfl)
        have g9_B2_5 := B2_3.f 5 (of_decide_eq_true rfl)
        have g9_B2_6 := B2_3.f 6 (of_decide_eq_true rfl)
        have g9_B2_7 := B2_3.f 7 (of_decide_eq_true rfl)
        go_wp2_with (with_reducible refine post_stop ?_)
        refine Stop.mk ?_
        clear c9_B0_0 c9_B2_0 c9_B2_1 c9_B2_2 c9_B2_3 c9_B2_4 c9_B2_5 c9_B2_6 c9_B2_7 c9_BF g9_B2_0 g9_B2_1 g9_B2_2 g9_B2_3 g9_B2_4 g9_B2_5 g9_B2_6 g9_B2_7
        refine bodyPost_ret (v := .agg #[.bool false, .int .i64 0, .int .i64 0, .int .i64 0, .int .i64 0, .int .i64 0, .int .i64 0, .int .i64 0]) (results_arr Try.results9 ((((((((B2_3.put 0 (of_decide_eq_true rfl) (.bool false) [.bool false, .int .i64 0, .int .i64 0, .int .i64 0, .int .i64 0, .int .i64 0, .int .i64 0, .int .i64 0] rfl).put 1 (of_decide_eq_true rfl) (.int .i64 0) [.bool false, .int .i64 0, .int .i64 0, .int .i64 0, .int .i64 0, .int .i64 0, .int .i64 0, .int .i64 0] rfl).put 2 (of_decide_eq_true rfl) (.int .i64 0) [.bool false, .int .i64 0, .int .i64 0, .int .i64 0, .int .i64 0, .int .i64 0, .int .i64 0, .int .i64 0] rfl).put 3 (of_decide_eq_true rfl) (.int .i64 0) [.bool false, .int .i64 0, .int .i64 0, .int .i64 0, .int .i64 0, .int .i64 0, .int .i64 0, .int .i64 0] rfl).put 4 (of_decide_eq_true rfl) (.int .i64 0) [.bool false, .int .i64 0, .int .i64 0, .int .i64 0, .int .i64 0, .int .i64 0, .int .i64 0, .int .i64 0] rfl).put 5 (of_decide_eq_true rfl) (.int .i64 0) [.bool false, .int .i64 0, .int .i64 0, .int .i64 0, .int .i64 0, .int .i64 0, .int .i64 0, .int .i64 0] rfl).put 6 (of_decide_eq_true rfl) (.int .i64 0) [.bool false, .int .i64 0, .int .i64 0, .int .i64 0, .int .i64 0, .int .i64 0, .int .i64 0, .int .i64 0] rfl).put 7 (of_decide_eq_true rfl) (.int .i64 0) [.bool false, .int .i64 0, .int .i64 0, .int .i64 0, .int .i64 0, .int .i64 0, .int .i64 0, .int .i64 0] rfl) rfl (by kernel_rfl) (by kernel_rfl)) rfl ?_
        have hs : rStep0 bad v k = ((false, 0, 0, 0, 0, 0, 0, 0), r3.2) := by unfold rStep0; simp only [E1.out, E2.out, E3.out]; rw [if_pos Hhc1.out]
        rw [hs]
        exact ⟨rfl, ((((((((f3.new (w.heap.size + 1 + 1) 0 (Nat.ne_of_lt y3_BF) (.bool false)).new (w.heap.size + 1 + 1) 1 (Nat.ne_of_lt y3_BF) (.int .i64 0)).new (w.heap.size + 1 + 1) 2 (Nat.ne_of_lt y3_BF) (.int .i64 0)).new (w.heap.size + 1 + 1) 3 (Nat.ne_of_lt y3_BF) (.int .i64 0)).new (w.heap.size + 1 + 1) 4 (Nat.ne_of_lt y3_BF) (.int .i64 0)).new (w.heap.size + 1 + 1) 5 (Nat.ne_of_lt y3_BF) (.int .i64 0)).new (w.heap.size + 1 + 1) 6 (Nat.ne_of_lt y3_BF) (.int .i64 0)).new (w.heap.size + 1 + 1) 7 (Nat.ne_of_lt y3_BF) (.int .i64 0)), ((((((((K3.new _ _ (by omega) _).new _ _ (by omega) _).new _ _ (by omega) _).new _ _ (by omega) _).new _ _ (by omega) _).new _ _ (by omega) _).new _ _ (by omega) _).new _ _ (by omega) _)⟩
      · have Hhc1 : Hid (r3.2 = false) := hc1
        have c9_B0_0 : w3.cell? ⟨w.heap.size, 0, none⟩ = some (.bool false) := B0_3.c 0 (of_decide_eq_true rfl)
        have c9_B1_0 : w3.cell? ⟨w.heap.size + 1, 0, none⟩ = some (.int .i64 v.1) := B1_3.c 0 (of_decide_eq_true rfl)
        have c9_B1_1 : w3.cell? ⟨w.heap.size + 1, 1, none⟩ = some (.int .i64 v.2.1) := B1_3.c 1 (of_decide_eq_true rfl)
        have c9_B1_2 : w3.cell? ⟨w.heap.size + 1, 2, none⟩ = some (.int .i64 v.2.2) := B1_3.c 2 (of_decide_eq_true rfl)
        have c9_B2_0 : w3.cell? ⟨w.heap.size + 1 + 1, 0, none⟩ = some (.bool false) := B2_3.c 0 (of_decide_eq_true rfl)
        have c9_B2_1 : w3.cell? ⟨w.heap.size + 1 + 1, 1, none⟩ = some (.int .i64 0) := B2_3.c 1 (of_decide_eq_true rfl)
        have c9_B2_2 : w3.cell? ⟨w.heap.size + 1 + 1, 2, none⟩ = some (.int .i64 0) := B2_3.c 2 (of_decide_eq_true rfl)
        have c9_B2_3 : w3.cell? ⟨w.heap.size + 1 + 1, 3, none⟩ = some (.int .i64 0) := B2_3.c 3 (of_decide_eq_true rfl)
        have c9_B2_4 : w3.cell? ⟨w.heap.size + 1 + 1, 4, none⟩ = some (.int .i64 0) := B2_3.c 4 (of_decide_eq_true rfl)
        have c9_B2_5 : w3.cell? ⟨w.heap.size + 1 + 1, 5, none⟩ = some (.int .i64 0) := B2_3.c 5 (of_decide_eq_true rfl)
        have c9_B2_6 : w3.cell? ⟨w.heap.size + 1 + 1, 6, none⟩ = some (.int .i64 0) := B2_3.c 6 (of_decide_eq_true rfl)
        have c9_B2_7 : w3.cell? ⟨w.heap.size + 1 + 1, 7, none⟩ = some (.int .i64 0) := B2_3.c 7 (of_decide_eq_true rfl)
        have c9_BF := f3.cell
        have g9_B2_0 := B2_3.f 0 (of_decide_eq_true rfl)
        have g9_B2_1 := B2_3.f 1 (of_decide_eq_true rfl)
        have g9_B2_2 := B2_3.f 2 (of_decide_eq_true rfl)
        have g9_B2_3 := B2_3.f 3 (of_decide_eq_true rfl)
        have g9_B2_4 := B2_3.f 4 (of_decide_eq_true rfl)
        have g9_B2_5 := B2_3.f 5 (of_decide_eq_true rfl)
        have g9_B2_6 := B2_3.f 6 (of_decide_eq_true rfl)
        have g9_B2_7 := B2_3.f 7 (of_decide_eq_true rfl)
        go_wp2_with (with_reducible refine post_stop ?_)
        refine Stop.mk ?_
        clear c9_B0_0 c9_B1_0 c9_B1_1 c9_B1_2 c9_B2_0 c9_B2_1 c9_B2_2 c9_B2_3 c9_B2_4 c9_B2_5 c9_B2_6 c9_B2_7 c9_BF g9_B2_0 g9_B2_1 g9_B2_2 g9_B2_3 g9_B2_4 g9_B2_5 g9_B2_6 g9_B2_7
        refine bodyPost_ret (v := .agg #[.bool true, .int .i64 k, .int .i64 v.1, .int .i64 v.2.1, .int .i64 v.2.2, .int .i64 0, .int .i64 0, .int .i64 0]) (results_arr Try.results9 ((((((((B2_3.put 0 (of_decide_eq_true rfl) (.bool true) [.bool true, .int .i64 0, .int .i64 0, .int .i64 0, .int .i64 0, .int .i64 0, .int .i64 0, .int .i64 0] rfl).put 1 (of_decide_eq_true rfl) (.int .i64 k) [.bool true, .int .i64 k, .int .i64 0, .int .i64 0, .int .i64 0, .int .i64 0, .int .i64 0, .int .i64 0] rfl).put 2 (of_decide_eq_true rfl) (.int .i64 v.1) [.bool true, .int .i64 k, .int .i64 v.1, .int .i64 0, .int .i64 0, .int .i64 0, .int .i64 0, .int .i64 0] rfl).put 3 (of_decide_eq_true rfl) (.int .i64 v.2.1) [.bool true, .int .i64 k, .int .i64 v.1, .int .i64 v.2.1, .int .i64 0, .int .i64 0, .int .i64 0, .int .i64 0] rfl).put 4 (of_decide_eq_true rfl) (.int .i64 v.2.2) [.bool true, .int .i64 k, .int .i64 v.1, .int .i64 v.2.1, .int .i64 v.2.2, .int .i64 0, .int .i64 0, .int .i64 0] rfl).put 5 (of_decide_eq_true rfl) (.int .i64 0) [.bool true, .int .i64 k, .int .i64 v.1, .int .i64 v.2.1, .int .i64 v.2.2, .int .i64 0, .int .i64 0, .int .i64 0] rfl).put 6 (of_decide_eq_true rfl) (.int .i64 0) [.bool true, .int .i64 k, .int .i64 v.1, .int .i64 v.2.1, .int .i64 v.2.2, .int .i64 0, .int .i64 0, .int .i64 0] rfl).put 7 (of_decide_eq_true rfl) (.int .i64 0) [.bool true, .int .i64 k, .int .i64 v.1, .int .i64 v.2.1, .int .i64 v.2.2, .int .i64 0, .int .i64 0, .int .i64 0] rfl) rfl (by kernel_rfl) (by kernel_rfl)) rfl ?_
        have hs : rStep0 bad v k = ((true, k, v.1, v.2.1, v.2.2, 0, 0, 0), r3.2) := by unfold rStep0; simp only [E1.out, E2.out, E3.out]; rw [if_neg (by rw [Hhc1.out]; decide)]
        rw [hs]
        exact ⟨rfl, ((((((((f3.new (w.heap.size + 1 + 1) 0 (Nat.ne_of_lt y3_BF) (.bool true)).new (w.heap.size + 1 + 1) 1 (Nat.ne_of_lt y3_BF) (.int .i64 k)).new (w.heap.size + 1 + 1) 2 (Nat.ne_of_lt y3_BF) (.int .i64 v.1)).new (w.heap.size + 1 + 1) 3 (Nat.ne_of_lt y3_BF) (.int .i64 v.2.1)).new (w.heap.size + 1 + 1) 4 (Nat.ne_of_lt y3_BF) (.int .i64 v.2.2)).new (w.heap.size + 1 + 1) 5 (Nat.ne_of_lt y3_BF) (.int .i64 0)).new (w.heap.size + 1 + 1) 6 (Nat.ne_of_lt y3_BF) (.int .i64 0)).new (w.heap.size + 1 + 1) 7 (Nat.ne_of_lt y3_BF) (.int .i64 0)), ((((((((K3.new _ _ (by omega) _).new _ _ (by omega) _).new _ _ (by omega) _).new _ _ (by omega) _).new _ _ (by omega) _).new _ _ (by omega) _).new _ _ (by omega) _).new _ _ (by omega) _)⟩
end Go.Proofs.Ytibjmmlnkgapeaa
