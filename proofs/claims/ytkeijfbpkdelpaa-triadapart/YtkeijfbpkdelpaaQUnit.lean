/-
  Walks of package quat, for the seat Ytkeijfbpkdelpaa. (Made by mkquat.py.)
-/
import Derived.Test.YtkeijfbpkdelpaaQBase
import Derived.Test.YtkeijfbpkdelpaaVCode
import Derived.Handy
import Derived.Deep.RegionHeld3
namespace Go.Proofs.Ytkeijfbpkdelpaa
open Go.RowKit

set_option maxRecDepth 100000 in
set_option maxHeartbeats 2000000 in
theorem qUnit_any (b : Nat) (bad : Bool) (q : V4) (w : World) (hw : Fl b bad w) :
    Calls Try.prog 16 #[.pointer (some ⟨b, 0, none⟩), .agg #[.int .i64 q.1, .int .i64 q.2.1, .int .i64 q.2.2.1, .int .i64 q.2.2.2]] w fun e w' => e = .returned (.agg #[.int .i64 ((qUnitS bad q).1.1), .int .i64 ((qUnitS bad q).1.2.1), .int .i64 ((qUnitS bad q).1.2.2.1), .int .i64 ((qUnitS bad q).1.2.2.2)]) ∧ Fl b (qUnitS bad q).2 w' ∧ Kept b w w' := by
  have hl := hw.lies
  go_enter Try.func16, Try.ntmps16
  go_wp2_with fail
  refine (parted_any q _).mono ?_
  rintro e w1 ⟨rfl, k1⟩
  have K1 : Kept b w w1 := Kept.trans (((Kept.refl b w).al _).al _) (Kept.of_below k1)
  have BF_1 : Fl b bad w1 := ((hw.alloc _).alloc _).below k1
  have B0_1 : Arr w.heap.size [.int .i64 q.1, .int .i64 q.2.1, .int .i64 q.2.2.1, .int .i64 q.2.2.2] w1 := ((Arr_at _ _ [.int .i64 q.1, .int .i64 q.2.1, .int .i64 q.2.2.1, .int .i64 q.2.2.2] _ (by simp)).alloc _).below k1
  have B1_1 : Arr (w.heap.size + 1) [.int .i64 0, .int .i64 0, .int .i64 0, .int .i64 0] w1 := (Arr_at _ _ [.int .i64 0, .int .i64 0, .int .i64 0, .int .i64 0] _ (by simp)).below k1
  have z1 := B1_1.lies
  clear k1
  go_wp2_with fail
  refine (vNorm_any b bad (q.1, q.2.1, q.2.2.1) _ (BF_1.alloc _)).mono ?_
  rintro e w2 ⟨rfl, f2, k2⟩
  generalize e2 : vNormS bad (q.1, q.2.1, q.2.2.1) = r2 at f2 ⊢
  have E2 : Hid _ := e2
  clear e2
  have K2 : Kept b w w2 := Kept.trans (K1.al _) k2
  have B0_2 : Arr w.heap.size [.int .i64 q.1, .int .i64 q.2.1, .int .i64 q.2.2.1, .int .i64 q.2.2.2] w2 := (B0_1.alloc _).kept k2 (by omega)
  have B1_2 : Arr (w.heap.size + 1) [.int .i64 0, .int .i64 0, .int .i64 0, .int .i64 0] w2 := (B1_1.alloc _).kept k2 (by omega)
  have B2_2 : Arr w1.heap.size [.int .i64 q.1, .int .i64 q.2.1, .int .i64 q.2.2.1] w2 := (Arr_at _ _ [.int .i64 q.1, .int .i64 q.2.1, .int .i64 q.2.2.1] _ (by simp)).kept k2 (by omega)
  have z2 := B2_2.lies
  clear K1 BF_1 B0_1 B1_1 k2
  go_wp2_with fail
  refine (Norm_any b r2.2 r2.1 q.2.2.2 0 _ f2).mono ?_
  rintro e w3 ⟨rfl, f3, k3⟩
  generalize e3 : normS r2.2 r2.1 q.2.2.2 0 = r3 at f3 ⊢
  have E3 : Hid _ := e3
  clear e3
  have K3 : Kept b w w3 := Kept.trans K2 k3
  have B0_3 : Arr w.heap.size [.int .i64 q.1, .int .i64 q.2.1, .int .i64 q.2.2.1, .int .i64 q.2.2.2] w3 := B0_2.kept k3 (by omega)
  have B1_3 : Arr (w.heap.size + 1) [.int .i64 0, .int .i64 0, .int .i64 0, .int .i64 0] w3 := B1_2.kept k3 (by omega)
  have B2_3 : Arr w1.heap.size [.int .i64 q.1, .int .i64 q.2.1, .int .i64 q.2.2.1] w3 := B2_2.kept k3 (by omega)
  have z3 := B2_3.lies
  clear K2 f2 B0_2 B1_2 B2_2 k3
  by_cases hc1 : r3.1 < 549755813888
  · have Hhc1 : Hid (r3.1 < 549755813888) := hc1
    go_wp2_with fail
    refine (Fail_any b r3.2  _ f3).mono ?_
    rintro e w4 ⟨rfl, f4, k4⟩
    have K4 : Kept b w w4 := Kept.trans K3 k4
    have B0_4 : Arr w.heap.size [.int .i64 q.1, .int .i64 q.2.1, .int .i64 q.2.2.1, .int .i64 q.2.2.2] w4 := B0_3.kept k4 (by omega)
    have B1_4 : Arr (w.heap.size + 1) [.int .i64 0, .int .i64 0, .int .i64 0, .int .i64 0] w4 := B1_3.kept k4 (by omega)
    have B2_4 : Arr w1.heap.size [.int .i64 q.1, .int .i64 q.2.1, .int .i64 q.2.2.1] w4 := B2_3.kept k4 (by omega)
    have z4 := B2_4.lies
    clear K3 f3 B0_3 B1_3 B2_3 k4
    have c5_B1_0 : w4.cell? ⟨w.heap.size + 1, 0, none⟩ = some (.int .i64 0) := B1_4.c 0 (of_decide_eq_true rfl)
    have c5_B1_1 : w4.cell? ⟨w.heap.size + 1, 1, none⟩ = some (.int .i64 0) := B1_4.c 1 (of_decide_eq_true rfl)
    have c5_B1_2 : w4.cell? ⟨w.heap.size + 1, 2, none⟩ = some (.int .i64 0) := B1_4.c 2 (of_decide_eq_true rfl)
    have c5_B1_3 : w4.cell? ⟨w.heap.size + 1, 3, none⟩ = some (.int .i64 0) := B1_4.c 3 (of_decide_eq_true rfl)
    have g5_B1_0 := B1_4.f 0 (of_decide_eq_true rfl)
    have g5_B1_1 := B1_4.f 1 (of_decide_eq_true rfl)
    have g5_B1_2 := B1_4.f 2 (of_decide_eq_true rfl)
    have g5_B1_3 := B1_4.f 3 (of_decide_eq_true rfl)
    go_wp2
    clear c5_B1_0 c5_B1_1 c5_B1_2 c5_B1_3 g5_B1_0 g5_B1_1 g5_B1_2 g5_B1_3
    have d0 := Arr.c (B1_4.put 0 (of_decide_eq_true rfl) (.int .i64 0) [.int .i64 0, .int .i64 0, .int .i64 0, .int .i64 0] rfl) 0 (of_decide_eq_true rfl)
    have d1 := Arr.c ((B1_4.put 0 (of_decide_eq_true rfl) (.int .i64 0) [.int .i64 0, .int .i64 0, .int .i64 0, .int .i64 0] rfl).put 1 (of_decide_eq_true rfl) (.int .i64 0) [.int .i64 0, .int .i64 0, .int .i64 0, .int .i64 0] rfl) 1 (of_decide_eq_true rfl)
    have d2 := Arr.c (((B1_4.put 0 (of_decide_eq_true rfl) (.int .i64 0) [.int .i64 0, .int .i64 0, .int .i64 0, .int .i64 0] rfl).put 1 (of_decide_eq_true rfl) (.int .i64 0) [.int .i64 0, .int .i64 0, .int .i64 0, .int .i64 0] rfl).put 2 (of_decide_eq_true rfl) (.int .i64 0) [.int .i64 0, .int .i64 0, .int .i64 0, .int .i64 0] rfl) 2 (of_decide_eq_true rfl)
    have d3 := Arr.c ((((B1_4.put 0 (of_decide_eq_true rfl) (.int .i64 0) [.int .i64 0, .int .i64 0, .int .i64 0, .int .i64 0] rfl).put 1 (of_decide_eq_true rfl) (.int .i64 0) [.int .i64 0, .int .i64 0, .int .i64 0, .int .i64 0] rfl).put 2 (of_decide_eq_true rfl) (.int .i64 0) [.int .i64 0, .int .i64 0, .int .i64 0, .int .i64 0] rfl).put 3 (of_decide_eq_true rfl) (.int .i64 0) [.int .i64 0, .int .i64 0, .int .i64 0, .int .i64 0] rfl) 3 (of_decide_eq_true rfl)
    refine bodyPost_ret (v := .agg #[.int .i64 0, .int .i64 0, .int .i64 0, .int .i64 0]) (by simp [results, Try.results16, go_sem, d0, d1, d2, d3]) rfl ?_
    have hs : qUnitS bad q = ((0, 0, 0, 0), true) := by unfold qUnitS; simp only [E2.out, E3.out]; rw [if_pos (by have := Hhc1.out; omega)]
    rw [hs]
    exact ⟨rfl, ((((f4.new _ _ (by omega) _).new _ _ (by omega) _).new _ _ (by omega) _).new _ _ (by omega) _), ((((K4.new _ _ (by omega) _).new _ _ (by omega) _).new _ _ (by omega) _).new _ _ (by omega) _)⟩
  · have Hhc1 : Hid (¬ r3.1 < 549755813888) := hc1
    go_wp2_with fail
    refine wp_region_held_drew (S := fun w' => Arr w.heap.size [.int .i64 q.1, .int .i64 q.2.1, .int .i64 q.2.2.1, .int .i64 q.2.2.2] w') (by kernel_rfl) B0_3.drew (fun hHeld => ?_)
    refine take_at (i := 0) (v := ?v48) rfl (by kernel_rfl) (by kernel_rfl) (by kernel_rfl) (fun _ _ _ h => h) (Or.inl ⟨by rfl, ?y48⟩) hHeld ?t48
    case y48 => (intro wx hSw; go_simp <;> with_reducible rfl)
    simp only [Act.put, List.setIfInBounds_toArray, List.set_cons_zero, List.set_cons_succ]
    refine take_at (i := 1) (v := ?v49) rfl (by kernel_rfl) (by kernel_rfl) (by kernel_rfl) (fun _ _ _ h => h) (Or.inl ⟨by rfl, ?y49⟩) hHeld ?t49
    case y49 => (intro wx hSw; go_simp <;> with_reducible rfl)
    simp only [Act.put, List.setIfInBounds_toArray, List.set_cons_zero, List.set_cons_succ]
    refine take_at (i := 2) (v := ?v50) rfl (by kernel_rfl) (by kernel_rfl) (by kernel_rfl) (fun _ _ _ h => h) (Or.inl ⟨by rfl, ?y50⟩) hHeld ?t50
    case y50 => (intro wx hSw; have hc0 : wx.cell? ⟨w.heap.size, 0, none⟩ = some (.int .i64 q.1) := hSw.c 0 (of_decide_eq_true rfl); go_simp <;> with_reducible rfl)
    simp only [Act.put, List.setIfInBounds_toArray, List.set_cons_zero, List.set_cons_succ]
    refine take_at (i := 3) (v := ?v51) rfl (by kernel_rfl) (by kernel_rfl) (by kernel_rfl) (fun _ _ _ h => h) (Or.inl ⟨by rfl, ?y51⟩) hHeld ?t51
    case y51 => (intro wx hSw; go_simp <;> with_reducible rfl)
    simp only [Act.put, List.setIfInBounds_toArray, List.set_cons_zero, List.set_cons_succ]
    refine take_at (i := 5) (v := ?v52) rfl (by kernel_rfl) (by kernel_rfl) (by kernel_rfl) (fun _ _ _ h => h) (Or.inl ⟨by rfl, ?y52⟩) hHeld ?t52
    case y52 => (intro wx hSw; go_simp <;> with_reducible rfl)
    simp only [Act.put, List.setIfInBounds_toArray, List.set_cons_zero, List.set_cons_succ]
    refine take_at (i := 6) (v := ?v53) rfl (by kernel_rfl) (by kernel_rfl) (by kernel_rfl) (fun _ _ _ h => h) (Or.inl ⟨by rfl, ?y53⟩) hHeld ?t53
    case y53 => (intro wx hSw; go_simp <;> with_reducible rfl)
    simp only [Act.put, List.setIfInBounds_toArray, List.set_cons_zero, List.set_cons_succ]
    refine take_at (i := 7) (v := ?v54) rfl (by kernel_rfl) (by kernel_rfl) (by kernel_rfl) (fun _ _ _ h => h) (Or.inl ⟨by rfl, ?y54⟩) hHeld ?t54
    case y54 => (intro wx hSw; have hc1 : wx.cell? ⟨w.heap.size, 1, none⟩ = some (.int .i64 q.2.1) := hSw.c 1 (of_decide_eq_true rfl); go_simp <;> with_reducible rfl)
    simp only [Act.put, List.setIfInBounds_toArray, List.set_cons_zero, List.set_cons_succ]
    refine take_at (i := 8) (v := ?v55) rfl (by kernel_rfl) (by kernel_rfl) (by kernel_rfl) (fun _ _ _ h => h) (Or.inl ⟨by rfl, ?y55⟩) hHeld ?t55
    case y55 => (intro wx hSw; go_simp <;> with_reducible rfl)
    simp only [Act.put, List.setIfInBounds_toArray, List.set_cons_zero, List.set_cons_succ]
    refine take_at (i := 10) (v := ?v56) rfl (by kernel_rfl) (by kernel_rfl) (by kernel_rfl) (fun _ _ _ h => h) (Or.inl ⟨by rfl, ?y56⟩) hHeld ?t56
    case y56 => (intro wx hSw; go_simp <;> with_reducible rfl)
    simp only [Act.put, List.setIfInBounds_toArray, List.set_cons_zero, List.set_cons_succ]
    refine take_at (i := 11) (v := ?v57) rfl (by kernel_rfl) (by kernel_rfl) (by kernel_rfl) (fun _ _ _ h => h) (Or.inl ⟨by rfl, ?y57⟩) hHeld ?t57
    case y57 => (intro wx hSw; go_simp <;> with_reducible rfl)
    simp only [Act.put, List.setIfInBounds_toArray, List.set_cons_zero, List.set_cons_succ]
    refine take_at (i := 12) (v := ?v58) rfl (by kernel_rfl) (by kernel_rfl) (by kernel_rfl) (fun _ _ _ h => h) (Or.inl ⟨by rfl, ?y58⟩) hHeld ?t58
    case y58 => (intro wx hSw; have hc2 : wx.cell? ⟨w.heap.size, 2, none⟩ = some (.int .i64 q.2.2.1) := hSw.c 2 (of_decide_eq_true rfl); go_simp <;> with_reducible rfl)
    simp only [Act.put, List.setIfInBounds_toArray, List.set_cons_zero, List.set_cons_succ]
    refine take_at (i := 13) (v := ?v59) rfl (by kernel_rfl) (by kernel_rfl) (by kernel_rfl) (fun _ _ _ h => h) (Or.inl ⟨by rfl, ?y59⟩) hHeld ?t59
    case y59 => (intro wx hSw; go_simp <;> with_reducible rfl)
    simp only [Act.put, List.setIfInBounds_toArray, List.set_cons_zero, List.set_cons_succ]
    refine take_at (i := 15) (v := ?v60) rfl (by kernel_rfl) (by kernel_rfl) (by kernel_rfl) (fun _ _ _ h => h) (Or.inl ⟨by rfl, ?y60⟩) hHeld ?t60
    case y60 => (intro wx hSw; go_simp <;> with_reducible rfl)
    simp only [Act.put, List.setIfInBounds_toArray, List.set_cons_zero, List.set_cons_succ]
    refine take_at (i := 16) (v := ?v61) rfl (by kernel_rfl) (by kernel_rfl) (by kernel_rfl) (fun _ _ _ h => h) (Or.inl ⟨by rfl, ?y61⟩) hHeld ?t61
    case y61 => (intro wx hSw; go_simp <;> with_reducible rfl)
    simp only [Act.put, List.setIfInBounds_toArray, List.set_cons_zero, List.set_cons_succ]
    refine take_at (i := 17) (v := ?v62) rfl (by kernel_rfl) (by kernel_rfl) (by kernel_rfl) (fun _ _ _ h => h) (Or.inl ⟨by rfl, ?y62⟩) hHeld ?t62
    case y62 => (intro wx hSw; have hc3 : wx.cell? ⟨w.heap.size, 3, none⟩ = some (.int .i64 q.2.2.2) := hSw.c 3 (of_decide_eq_true rfl); go_simp <;> with_reducible rfl)
    simp only [Act.put, List.setIfInBounds_toArray, List.set_cons_zero, List.set_cons_succ]
    refine take_at (i := 18) (v := ?v63) rfl (by kernel_rfl) (by kernel_rfl) (by kernel_rfl) (fun _ _ _ h => h) (Or.inl ⟨by rfl, ?y63⟩) hHeld ?t63
    case y63 => (intro wx hSw; go_simp <;> with_reducible rfl)
    simp only [Act.put, List.setIfInBounds_toArray, List.set_cons_zero, List.set_cons_succ]
    refine call_at (i := 4) (by kernel_rfl) rfl (fun K hK => ?_)
    go_simp
    refine (Div_any b r3.2 q.1 r3.1 _ f3.drew).mono ?_
    rintro e w4 ⟨rfl, f4, k4⟩
    generalize e4 : divS r3.2 q.1 r3.1 = r4 at f4 ⊢
    have E4 : Hid _ := e4
    clear e4
    have K4 : Kept b w w4 := Kept.trans K3.drew k4
    have B0_4 : Arr w.heap.size [.int .i64 q.1, .int .i64 q.2.1, .int .i64 q.2.2.1, .int .i64 q.2.2.2] w4 := B0_3.drew.kept k4 (by omega)
    have B1_4 : Arr (w.heap.size + 1) [.int .i64 0, .int .i64 0, .int .i64 0, .int .i64 0] w4 := B1_3.drew.kept k4 (by omega)
    have B2_4 : Arr w1.heap.size [.int .i64 q.1, .int .i64 q.2.1, .int .i64 q.2.2.1] w4 := B2_3.drew.kept k4 (by omega)
    have z4 := B2_4.lies
    clear hHeld
    refine hK.out _ _ B0_4 (fun hHeld => ?_)
    clear hK K K3 f3 B0_3 B1_3 B2_3 k4
    refine call_at (i := 9) (by kernel_rfl) rfl (fun K hK => ?_)
    go_simp
    refine (Div_any b r4.2 q.2.1 r3.1 _ f4).mono ?_
    rintro e w5 ⟨rfl, f5, k5⟩
    generalize e5 : divS r4.2 q.2.1 r3.1 = r5 at f5 ⊢
    have E5 : Hid _ := e5
    clear e5
    have K5 : Kept b w w5 := Kept.trans K4 k5
    have B0_5 : Arr w.heap.size [.int .i64 q.1, .int .i64 q.2.1, .int .i64 q.2.2.1, .int .i64 q.2.2.2] w5 := B0_4.kept k5 (by omega)
    have B1_5 : Arr (w.heap.size + 1) [.int .i64 0, .int .i64 0, .int .i64 0, .int .i64 0] w5 := B1_4.kept k5 (by omega)
    have B2_5 : Arr w1.heap.size [.int .i64 q.1, .int .i64 q.2.1, .int .i64 q.2.2.1] w5 := B2_4.kept k5 (by omega)
    have z5 := B2_5.lies
    clear hHeld
    refine hK.out _ _ B0_5 (fun hHeld => ?_)
    clear hK K K4 f4 B0_4 B1_4 B2_4 k5
    refine call_at (i := 14) (by kernel_rfl) rfl (fun K hK => ?_)
    go_simp
    refine (Div_any b r5.2 q.2.2.1 r3.1 _ f5).mono ?_
    rintro e w6 ⟨rfl, f6, k6⟩
    generalize e6 : divS r5.2 q.2.2.1 r3.1 = r6 at f6 ⊢
    have E6 : Hid _ := e6
    clear e6
    have K6 : Kept b w w6 := Kept.trans K5 k6
    have B0_6 : Arr w.heap.size [.int .i64 q.1, .int .i64 q.2.1, .int .i64 q.2.2.1, .int .i64 q.2.2.2] w6 := B0_5.kept k6 (by omega)
    have B1_6 : Arr (w.heap.size + 1) [.int .i64 0, .int .i64 0, .int .i64 0, .int .i64 0] w6 := B1_5.kept k6 (by omega)
    have B2_6 : Arr w1.heap.size [.int .i64 q.1, .int .i64 q.2.1, .int .i64 q.2.2.1] w6 := B2_5.kept k6 (by omega)
    have z6 := B2_6.lies
    clear hHeld
    refine hK.out _ _ B0_6 (fun hHeld => ?_)
    clear hK K K5 f5 B0_5 B1_5 B2_5 k6
    refine call_at (i := 19) (by kernel_rfl) rfl (fun K hK => ?_)
    go_simp
    refine (Div_any b r6.2 q.2.2.2 r3.1 _ f6).mono ?_
    rintro e w7 ⟨rfl, f7, k7⟩
    generalize e7 : divS r6.2 q.2.2.2 r3.1 = r7 at f7 ⊢
    have E7 : Hid _ := e7
    clear e7
    have K7 : Kept b w w7 := Kept.trans K6 k7
    have B0_7 : Arr w.heap.size [.int .i64 q.1, .int .i64 q.2.1, .int .i64 q.2.2.1, .int .i64 q.2.2.2] w7 := B0_6.kept k7 (by omega)
    have B1_7 : Arr (w.heap.size + 1) [.int .i64 0, .int .i64 0, .int .i64 0, .int .i64 0] w7 := B1_6.kept k7 (by omega)
    have B2_7 : Arr w1.heap.size [.int .i64 q.1, .int .i64 q.2.1, .int .i64 q.2.2.1] w7 := B2_6.kept k7 (by omega)
    have z7 := B2_7.lies
    clear hHeld
    refine hK.out _ _ B0_7 (fun hHeld => ?_)
    clear hK K K6 f6 B0_6 B1_6 B2_6 k7
    refine take_at (i := 20) (v := ?v64) rfl (by kernel_rfl) (by kernel_rfl) (by kernel_rfl) (fun _ _ _ h => h) (Or.inl ⟨by rfl, ?y64⟩) hHeld ?t64
    case y64 => (intro wx hSw; go_simp <;> with_reducible rfl)
    simp only [Act.put, List.setIfInBounds_toArray, List.set_cons_zero, List.set_cons_succ]
    refine call_at (i := 21) (by kernel_rfl) rfl (fun K hK => ?_)
    go_simp
    refine (upright_any (r4.1, r5.1, r6.1, r7.1) _).mono ?_
    rintro e w8 ⟨rfl, k8⟩
    generalize e8 : uprightS (r4.1, r5.1, r6.1, r7.1) = r8
    have E8 : Hid _ := e8
    clear e8
    have K8 : Kept b w w8 := Kept.trans K7 (Kept.of_below k8)
    have BF_8 : Fl b r7.2 w8 := f7.below k8
    have B0_8 : Arr w.heap.size [.int .i64 q.1, .int .i64 q.2.1, .int .i64 q.2.2.1, .int .i64 q.2.2.2] w8 := B0_7.below k8
    have B1_8 : Arr (w.heap.size + 1) [.int .i64 0, .int .i64 0, .int .i64 0, .int .i64 0] w8 := B1_7.below k8
    have B2_8 : Arr w1.heap.size [.int .i64 q.1, .int .i64 q.2.1, .int .i64 q.2.2.1] w8 := B2_7.below k8
    have z8 := B2_8.lies
    clear hHeld
    refine hK.out _ _ B0_8 (fun hHeld => ?_)
    clear hK K K7 f7 B0_7 B1_7 B2_7 k8
    refine call_at (i := 22) (by kernel_rfl) rfl (fun K hK => ?_)
    have c5_B1_0 : w8.cell? ⟨w.heap.size + 1, 0, none⟩ = some (.int .i64 0) := B1_8.c 0 (of_decide_eq_true rfl)
    have c5_B1_1 : w8.cell? ⟨w.heap.size + 1, 1, none⟩ = some (.int .i64 0) := B1_8.c 1 (of_decide_eq_true rfl)
    have c5_B1_2 : w8.cell? ⟨w.heap.size + 1, 2, none⟩ = some (.int .i64 0) := B1_8.c 2 (of_decide_eq_true rfl)
    have c5_B1_3 : w8.cell? ⟨w.heap.size + 1, 3, none⟩ = some (.int .i64 0) := B1_8.c 3 (of_decide_eq_true rfl)
    have g5_B1_0 := B1_8.f 0 (of_decide_eq_true rfl)
    have g5_B1_1 := B1_8.f 1 (of_decide_eq_true rfl)
    have g5_B1_2 := B1_8.f 2 (of_decide_eq_true rfl)
    have g5_B1_3 := B1_8.f 3 (of_decide_eq_true rfl)
    go_simp
    clear hHeld
    refine hK.out _ _ ((((B0_8.new _ _ (by omega) _).new _ _ (by omega) _).new _ _ (by omega) _).new _ _ (by omega) _) (fun hHeld => ?_)
    clear hK K c5_B1_0 c5_B1_1 c5_B1_2 c5_B1_3 g5_B1_0 g5_B1_1 g5_B1_2 g5_B1_3
    refine wpAnyH_done (by kernel_rfl) ?_ _
    clear hHeld
    go_wp2
    have d0 := Arr.c (B1_8.put 0 (of_decide_eq_true rfl) (.int .i64 r8.1) [.int .i64 r8.1, .int .i64 0, .int .i64 0, .int .i64 0] rfl) 0 (of_decide_eq_true rfl)
    have d1 := Arr.c ((B1_8.put 0 (of_decide_eq_true rfl) (.int .i64 r8.1) [.int .i64 r8.1, .int .i64 0, .int .i64 0, .int .i64 0] rfl).put 1 (of_decide_eq_true rfl) (.int .i64 r8.2.1) [.int .i64 r8.1, .int .i64 r8.2.1, .int .i64 0, .int .i64 0] rfl) 1 (of_decide_eq_true rfl)
    have d2 := Arr.c (((B1_8.put 0 (of_decide_eq_true rfl) (.int .i64 r8.1) [.int .i64 r8.1, .int .i64 0, .int .i64 0, .int .i64 0] rfl).put 1 (of_decide_eq_true rfl) (.int .i64 r8.2.1) [.int .i64 r8.1, .int .i64 r8.2.1, .int .i64 0, .int .i64 0] rfl).put 2 (of_decide_eq_true rfl) (.int .i64 r8.2.2.1) [.int .i64 r8.1, .int .i64 r8.2.1, .int .i64 r8.2.2.1, .int .i64 0] rfl) 2 (of_decide_eq_true rfl)
    have d3 := Arr.c ((((B1_8.put 0 (of_decide_eq_true rfl) (.int .i64 r8.1) [.int .i64 r8.1, .int .i64 0, .int .i64 0, .int .i64 0] rfl).put 1 (of_decide_eq_true rfl) (.int .i64 r8.2.1) [.int .i64 r8.1, .int .i64 r8.2.1, .int .i64 0, .int .i64 0] rfl).put 2 (of_decide_eq_true rfl) (.int .i64 r8.2.2.1) [.int .i64 r8.1, .int .i64 r8.2.1, .int .i64 r8.2.2.1, .int .i64 0] rfl).put 3 (of_decide_eq_true rfl) (.int .i64 r8.2.2.2) [.int .i64 r8.1, .int .i64 r8.2.1, .int .i64 r8.2.2.1, .int .i64 r8.2.2.2] rfl) 3 (of_decide_eq_true rfl)
    refine bodyPost_ret (v := .agg #[.int .i64 r8.1, .int .i64 r8.2.1, .int .i64 r8.2.2.1, .int .i64 r8.2.2.2]) (by simp [results, Try.results16, go_sem, d0, d1, d2, d3]) rfl ?_
    have hs : qUnitS bad q = (r8, r7.2) := by unfold qUnitS; simp only [E2.out, E3.out, E4.out, E5.out, E6.out, E7.out, E8.out]; rw [if_neg (by have := Hhc1.out; omega)]
    rw [hs]
    exact ⟨rfl, ((((BF_8.new _ _ (by omega) _).new _ _ (by omega) _).new _ _ (by omega) _).new _ _ (by omega) _), ((((K8.new _ _ (by omega) _).new _ _ (by omega) _).new _ _ (by omega) _).new _ _ (by omega) _)⟩
end Go.Proofs.Ytkeijfbpkdelpaa
