/-
  The walks of package alidaderef03, for the seat Yteooceapkkdcpab. (Made by mkref03.py.)
-/
import Derived.Test.YteooceapkkdcpabUSpec
import Derived.Test.YteooceapkkdcpabVMem
import Derived.Test.YteooceapkkdcpabRMeth
import Derived.Test.YteooceapkkdcpabRNorm
import Derived.Handy
import Derived.Deep.RegionHeld3
namespace Go.Proofs.Yteooceapkkdcpab
open Go.RowKit

set_option maxHeartbeats 400000 in
theorem done_any (b : Nat) (bad : Bool) (v : V3) (w : World) (hw : Fl b bad w) :
    Calls Try.prog 54 #[.pointer (some ⟨b, 0, none⟩), .agg #[.int .i64 v.1, .int .i64 v.2.1, .int .i64 v.2.2]] w fun e w' => e = .returned (.agg #[.int .i64 (soundS bad v).1.1, .int .i64 (soundS bad v).1.2.1, .int .i64 (soundS bad v).1.2.2]) ∧ Fl b (soundS bad v).2 w' ∧ Kept b w w' := by
  have hc := hw.cell
  have hl := hw.lies
  have HW : Hid _ := hw
  clear hw
  cases bad
  · go_enter Try.func54, Try.ntmps54
    go_wp2
    refine bodyPost_ret (v := .agg #[.int .i64 v.1, .int .i64 v.2.1, .int .i64 v.2.2]) (by simp [results, Try.results54, go_sem]) rfl ?_
    exact ⟨rfl, (HW.out.alloc _).alloc _, ((Kept.refl _ _).al _).al _⟩
  · go_enter Try.func54, Try.ntmps54
    go_wp2
    refine bodyPost_ret (v := .agg #[.int .i64 0, .int .i64 0, .int .i64 0]) (by simp [results, Try.results54, go_sem]) rfl ?_
    exact ⟨rfl, (HW.out.alloc _).alloc _, ((Kept.refl _ _).al _).al _⟩

set_option maxRecDepth 100000 in
set_option maxHeartbeats 2000000 in
theorem uAdd_any (b : Nat) (bad : Bool) (p : V3) (q : V3) (w : World) (hw : Fl b bad w) :
    Calls Try.prog 36 #[.pointer (some ⟨b, 0, none⟩), .agg #[.int .i64 p.1, .int .i64 p.2.1, .int .i64 p.2.2], .agg #[.int .i64 q.1, .int .i64 q.2.1, .int .i64 q.2.2]] w fun e w' => e = .returned (.agg #[.int .i64 ((uAddS bad p q).1.1), .int .i64 ((uAddS bad p q).1.2.1), .int .i64 ((uAddS bad p q).1.2.2)]) ∧ Fl b (uAddS bad p q).2 w' ∧ Kept b w w' := by
  have hl := hw.lies
  go_enter Try.func36, Try.ntmps36
  go_wp2_with fail
  refine wp_loop_rounds 4 ?_
  rw [rounds_succ]
  go_wp2_with fail
  refine wp_region_held_drew (S := fun w' => Arr w.heap.size [.int .i64 p.1, .int .i64 p.2.1, .int .i64 p.2.2] w' ∧ Arr (w.heap.size + 1) [.int .i64 q.1, .int .i64 q.2.1, .int .i64 q.2.2] w') (by kernel_rfl) ⟨((((Arr_at _ _ [.int .i64 p.1, .int .i64 p.2.1, .int .i64 p.2.2] _ (by simp)).alloc _).alloc _).alloc _).drew, (((Arr_at _ _ [.int .i64 q.1, .int .i64 q.2.1, .int .i64 q.2.2] _ (by simp)).alloc _).alloc _).drew⟩ (fun hHeld => ?_)
  refine take_at (i := 0) (v := ?v28) rfl (by kernel_rfl) (by kernel_rfl) (by kernel_rfl) (fun _ _ _ h => h) (Or.inl ⟨by rfl, ?y28⟩) hHeld ?t28
  case y28 => (intro wx hSw; go_simp <;> with_reducible rfl)
  simp only [Act.put, List.setIfInBounds_toArray, List.set_cons_zero, List.set_cons_succ]
  refine take_at (i := 1) (v := ?v29) rfl (by kernel_rfl) (by kernel_rfl) (by kernel_rfl) (fun _ _ _ h => h) (Or.inl ⟨by rfl, ?y29⟩) hHeld ?t29
  case y29 => (intro wx hSw; go_simp <;> with_reducible rfl)
  simp only [Act.put, List.setIfInBounds_toArray, List.set_cons_zero, List.set_cons_succ]
  refine take_at (i := 2) (v := ?v30) rfl (by kernel_rfl) (by kernel_rfl) (by kernel_rfl) (fun _ _ _ h => h) (Or.inl ⟨by rfl, ?y30⟩) hHeld ?t30
  case y30 => (intro wx hSw; go_simp <;> with_reducible rfl)
  simp only [Act.put, List.setIfInBounds_toArray, List.set_cons_zero, List.set_cons_succ]
  refine take_at (i := 3) (v := ?v31) rfl (by kernel_rfl) (by kernel_rfl) (by kernel_rfl) (fun _ _ _ h => h) (Or.inl ⟨by rfl, ?y31⟩) hHeld ?t31
  case y31 => (intro wx hSw; go_simp <;> with_reducible rfl)
  simp only [Act.put, List.setIfInBounds_toArray, List.set_cons_zero, List.set_cons_succ]
  refine take_at (i := 4) (v := ?v32) rfl (by kernel_rfl) (by kernel_rfl) (by kernel_rfl) (fun _ _ _ h => h) (Or.inl ⟨by rfl, ?y32⟩) hHeld ?t32
  case y32 => (intro wx hSw; have hc0 : wx.cell? ⟨w.heap.size, 0, none⟩ = some (.int .i64 p.1) := hSw.1.c 0 (of_decide_eq_true rfl); go_simp <;> with_reducible rfl)
  simp only [Act.put, List.setIfInBounds_toArray, List.set_cons_zero, List.set_cons_succ]
  refine take_at (i := 5) (v := ?v33) rfl (by kernel_rfl) (by kernel_rfl) (by kernel_rfl) (fun _ _ _ h => h) (Or.inl ⟨by rfl, ?y33⟩) hHeld ?t33
  case y33 => (intro wx hSw; go_simp <;> with_reducible rfl)
  simp only [Act.put, List.setIfInBounds_toArray, List.set_cons_zero, List.set_cons_succ]
  refine take_at (i := 6) (v := ?v34) rfl (by kernel_rfl) (by kernel_rfl) (by kernel_rfl) (fun _ _ _ h => h) (Or.inl ⟨by rfl, ?y34⟩) hHeld ?t34
  case y34 => (intro wx hSw; go_simp <;> with_reducible rfl)
  simp only [Act.put, List.setIfInBounds_toArray, List.set_cons_zero, List.set_cons_succ]
  refine take_at (i := 7) (v := ?v35) rfl (by kernel_rfl) (by kernel_rfl) (by kernel_rfl) (fun _ _ _ h => h) (Or.inl ⟨by rfl, ?y35⟩) hHeld ?t35
  case y35 => (intro wx hSw; have hc0 : wx.cell? ⟨w.heap.size + 1, 0, none⟩ = some (.int .i64 q.1) := hSw.2.c 0 (of_decide_eq_true rfl); go_simp <;> with_reducible rfl)
  simp only [Act.put, List.setIfInBounds_toArray, List.set_cons_zero, List.set_cons_succ]
  refine call_at (i := 8) (by kernel_rfl) rfl (fun K hK => ?_)
  go_simp
  refine (rAdd_any b bad p.1 q.1 _ ((((hw.alloc _).alloc _).alloc _).alloc _).drew).mono ?_
  rintro e w1 ⟨rfl, f1, k1⟩
  generalize e1 : addS bad p.1 q.1 = r1 at f1 ⊢
  have E1 : Hid _ := e1
  clear e1
  have K1 : Kept b w w1 := Kept.trans (((((Kept.refl b w).al _).al _).al _).al _).drew k1
  have B0_1 : Arr w.heap.size [.int .i64 p.1, .int .i64 p.2.1, .int .i64 p.2.2] w1 := ((((Arr_at _ _ [.int .i64 p.1, .int .i64 p.2.1, .int .i64 p.2.2] _ (by simp)).alloc _).alloc _).alloc _).drew.kept k1 (by omega)
  have B1_1 : Arr (w.heap.size + 1) [.int .i64 q.1, .int .i64 q.2.1, .int .i64 q.2.2] w1 := (((Arr_at _ _ [.int .i64 q.1, .int .i64 q.2.1, .int .i64 q.2.2] _ (by simp)).alloc _).alloc _).drew.kept k1 (by omega)
  have B2_1 : Arr (w.heap.size + 1 + 1) [.int .i64 0, .int .i64 0, .int .i64 0] w1 := ((Arr_at _ _ [.int .i64 0, .int .i64 0, .int .i64 0] _ (by simp)).alloc _).drew.kept k1 (by omega)
  have B3_1 : Arr (w.heap.size + 1 + 1 + 1) [.int .i64 0, .int .i64 0, .int .i64 0] w1 := (Arr_at _ _ [.int .i64 0, .int .i64 0, .int .i64 0] _ (by simp)).drew.kept k1 (by omega)
  have z1 := B3_1.lies
  clear hHeld
  refine hK.out _ _ ⟨B0_1, B1_1⟩ (fun hHeld => ?_)
  clear hK K k1
  refine take_at (i := 9) (v := ?v36) rfl (by kernel_rfl) (by kernel_rfl) (by kernel_rfl) (fun _ _ _ h => h) (Or.inl ⟨by rfl, ?y36⟩) hHeld ?t36
  case y36 => (intro wx hSw; go_simp <;> with_reducible rfl)
  simp only [Act.put, List.setIfInBounds_toArray, List.set_cons_zero, List.set_cons_succ]
  refine call_at (i := 10) (by kernel_rfl) rfl (fun K hK => ?_)
  have c3_B3_0 : w1.cell? ⟨w.heap.size + 1 + 1 + 1, 0, none⟩ = some (.int .i64 0) := B3_1.c 0 (of_decide_eq_true rfl)
  have g3_B3_0 := B3_1.f 0 (of_decide_eq_true rfl)
  go_simp
  clear hHeld
  refine hK.out _ _ ⟨(B0_1.new _ _ (by omega) _), (B1_1.new _ _ (by omega) _)⟩ (fun hHeld => ?_)
  clear hK K c3_B3_0 g3_B3_0
  refine wpAnyH_done (by kernel_rfl) ?_ _
  clear hHeld
  go_wp2_with fail
  rw [rounds_succ]
  go_wp2_with fail
  refine wp_region_held_drew (S := fun w' => Arr w.heap.size [.int .i64 p.1, .int .i64 p.2.1, .int .i64 p.2.2] w' ∧ Arr (w.heap.size + 1) [.int .i64 q.1, .int .i64 q.2.1, .int .i64 q.2.2] w') (by kernel_rfl) ⟨(B0_1.new _ _ (by omega) _).drew, (B1_1.new _ _ (by omega) _).drew⟩ (fun hHeld => ?_)
  refine take_at (i := 0) (v := ?v37) rfl (by kernel_rfl) (by kernel_rfl) (by kernel_rfl) (fun _ _ _ h => h) (Or.inl ⟨by rfl, ?y37⟩) hHeld ?t37
  case y37 => (intro wx hSw; go_simp <;> with_reducible rfl)
  simp only [Act.put, List.setIfInBounds_toArray, List.set_cons_zero, List.set_cons_succ]
  refine take_at (i := 1) (v := ?v38) rfl (by kernel_rfl) (by kernel_rfl) (by kernel_rfl) (fun _ _ _ h => h) (Or.inl ⟨by rfl, ?y38⟩) hHeld ?t38
  case y38 => (intro wx hSw; go_simp <;> with_reducible rfl)
  simp only [Act.put, List.setIfInBounds_toArray, List.set_cons_zero, List.set_cons_succ]
  refine take_at (i := 2) (v := ?v39) rfl (by kernel_rfl) (by kernel_rfl) (by kernel_rfl) (fun _ _ _ h => h) (Or.inl ⟨by rfl, ?y39⟩) hHeld ?t39
  case y39 => (intro wx hSw; go_simp <;> with_reducible rfl)
  simp only [Act.put, List.setIfInBounds_toArray, List.set_cons_zero, List.set_cons_succ]
  refine take_at (i := 3) (v := ?v40) rfl (by kernel_rfl) (by kernel_rfl) (by kernel_rfl) (fun _ _ _ h => h) (Or.inl ⟨by rfl, ?y40⟩) hHeld ?t40
  case y40 => (intro wx hSw; go_simp <;> with_reducible rfl)
  simp only [Act.put, List.setIfInBounds_toArray, List.set_cons_zero, List.set_cons_succ]
  refine take_at (i := 4) (v := ?v41) rfl (by kernel_rfl) (by kernel_rfl) (by kernel_rfl) (fun _ _ _ h => h) (Or.inl ⟨by rfl, ?y41⟩) hHeld ?t41
  case y41 => (intro wx hSw; have hc1 : wx.cell? ⟨w.heap.size, 1, none⟩ = some (.int .i64 p.2.1) := hSw.1.c 1 (of_decide_eq_true rfl); go_simp <;> with_reducible rfl)
  simp only [Act.put, List.setIfInBounds_toArray, List.set_cons_zero, List.set_cons_succ]
  refine take_at (i := 5) (v := ?v42) rfl (by kernel_rfl) (by kernel_rfl) (by kernel_rfl) (fun _ _ _ h => h) (Or.inl ⟨by rfl, ?y42⟩) hHeld ?t42
  case y42 => (intro wx hSw; go_simp <;> with_reducible rfl)
  simp only [Act.put, List.setIfInBounds_toArray, List.set_cons_zero, List.set_cons_succ]
  refine take_at (i := 6) (v := ?v43) rfl (by kernel_rfl) (by kernel_rfl) (by kernel_rfl) (fun _ _ _ h => h) (Or.inl ⟨by rfl, ?y43⟩) hHeld ?t43
  case y43 => (intro wx hSw; go_simp <;> with_reducible rfl)
  simp only [Act.put, List.setIfInBounds_toArray, List.set_cons_zero, List.set_cons_succ]
  refine take_at (i := 7) (v := ?v44) rfl (by kernel_rfl) (by kernel_rfl) (by kernel_rfl) (fun _ _ _ h => h) (Or.inl ⟨by rfl, ?y44⟩) hHeld ?t44
  case y44 => (intro wx hSw; have hc1 : wx.cell? ⟨w.heap.size + 1, 1, none⟩ = some (.int .i64 q.2.1) := hSw.2.c 1 (of_decide_eq_true rfl); go_simp <;> with_reducible rfl)
  simp only [Act.put, List.setIfInBounds_toArray, List.set_cons_zero, List.set_cons_succ]
  refine call_at (i := 8) (by kernel_rfl) rfl (fun K hK => ?_)
  go_simp
  refine (rAdd_any b r1.2 p.2.1 q.2.1 _ (f1.new _ _ (by omega) _).drew).mono ?_
  rintro e w2 ⟨rfl, f2, k2⟩
  generalize e2 : addS r1.2 p.2.1 q.2.1 = r2 at f2 ⊢
  have E2 : Hid _ := e2
  clear e2
  have K2 : Kept b w w2 := Kept.trans (K1.new _ _ (by omega) _).drew k2
  have B0_2 : Arr w.heap.size [.int .i64 p.1, .int .i64 p.2.1, .int .i64 p.2.2] w2 := (B0_1.new _ _ (by omega) _).drew.kept k2 (by omega)
  have B1_2 : Arr (w.heap.size + 1) [.int .i64 q.1, .int .i64 q.2.1, .int .i64 q.2.2] w2 := (B1_1.new _ _ (by omega) _).drew.kept k2 (by omega)
  have B2_2 : Arr (w.heap.size + 1 + 1) [.int .i64 0, .int .i64 0, .int .i64 0] w2 := (B2_1.new _ _ (by omega) _).drew.kept k2 (by omega)
  have B3_2 : Arr (w.heap.size + 1 + 1 + 1) [.int .i64 r1.1, .int .i64 0, .int .i64 0] w2 := (B3_1.put 0 (of_decide_eq_true rfl) (.int .i64 r1.1) [.int .i64 r1.1, .int .i64 0, .int .i64 0] rfl).drew.kept k2 (by omega)
  have z2 := B3_2.lies
  clear hHeld
  refine hK.out _ _ ⟨B0_2, B1_2⟩ (fun hHeld => ?_)
  clear hK K K1 f1 B0_1 B1_1 B2_1 B3_1 k2
  refine take_at (i := 9) (v := ?v45) rfl (by kernel_rfl) (by kernel_rfl) (by kernel_rfl) (fun _ _ _ h => h) (Or.inl ⟨by rfl, ?y45⟩) hHeld ?t45
  case y45 => (intro wx hSw; go_simp <;> with_reducible rfl)
  simp only [Act.put, List.setIfInBounds_toArray, List.set_cons_zero, List.set_cons_succ]
  refine call_at (i := 10) (by kernel_rfl) rfl (fun K hK => ?_)
  have c6_B3_1 : w2.cell? ⟨w.heap.size + 1 + 1 + 1, 1, none⟩ = some (.int .i64 0) := B3_2.c 1 (of_decide_eq_true rfl)
  have g6_B3_1 := B3_2.f 1 (of_decide_eq_true rfl)
  go_simp
  clear hHeld
  refine hK.out _ _ ⟨(B0_2.new _ _ (by omega) _), (B1_2.new _ _ (by omega) _)⟩ (fun hHeld => ?_)
  clear hK K c6_B3_1 g6_B3_1
  refine wpAnyH_done (by kernel_rfl) ?_ _
  clear hHeld
  go_wp2_with fail
  rw [rounds_succ]
  go_wp2_with fail
  refine wp_region_held_drew (S := fun w' => Arr w.heap.size [.int .i64 p.1, .int .i64 p.2.1, .int .i64 p.2.2] w' ∧ Arr (w.heap.size + 1) [.int .i64 q.1, .int .i64 q.2.1, .int .i64 q.2.2] w') (by kernel_rfl) ⟨(B0_2.new _ _ (by omega) _).drew, (B1_2.new _ _ (by omega) _).drew⟩ (fun hHeld => ?_)
  refine take_at (i := 0) (v := ?v46) rfl (by kernel_rfl) (by kernel_rfl) (by kernel_rfl) (fun _ _ _ h => h) (Or.inl ⟨by rfl, ?y46⟩) hHeld ?t46
  case y46 => (intro wx hSw; go_simp <;> with_reducible rfl)
  simp only [Act.put, List.setIfInBounds_toArray, List.set_cons_zero, List.set_cons_succ]
  refine take_at (i := 1) (v := ?v47) rfl (by kernel_rfl) (by kernel_rfl) (by kernel_rfl) (fun _ _ _ h => h) (Or.inl ⟨by rfl, ?y47⟩) hHeld ?t47
  case y47 => (intro wx hSw; go_simp <;> with_reducible rfl)
  simp only [Act.put, List.setIfInBounds_toArray, List.set_cons_zero, List.set_cons_succ]
  refine take_at (i := 2) (v := ?v48) rfl (by kernel_rfl) (by kernel_rfl) (by kernel_rfl) (fun _ _ _ h => h) (Or.inl ⟨by rfl, ?y48⟩) hHeld ?t48
  case y48 => (intro wx hSw; go_simp <;> with_reducible rfl)
  simp only [Act.put, List.setIfInBounds_toArray, List.set_cons_zero, List.set_cons_succ]
  refine take_at (i := 3) (v := ?v49) rfl (by kernel_rfl) (by kernel_rfl) (by kernel_rfl) (fun _ _ _ h => h) (Or.inl ⟨by rfl, ?y49⟩) hHeld ?t49
  case y49 => (intro wx hSw; go_simp <;> with_reducible rfl)
  simp only [Act.put, List.setIfInBounds_toArray, List.set_cons_zero, List.set_cons_succ]
  refine take_at (i := 4) (v := ?v50) rfl (by kernel_rfl) (by kernel_rfl) (by kernel_rfl) (fun _ _ _ h => h) (Or.inl ⟨by rfl, ?y50⟩) hHeld ?t50
  case y50 => (intro wx hSw; have hc2 : wx.cell? ⟨w.heap.size, 2, none⟩ = some (.int .i64 p.2.2) := hSw.1.c 2 (of_decide_eq_true rfl); go_simp <;> with_reducible rfl)
  simp only [Act.put, List.setIfInBounds_toArray, List.set_cons_zero, List.set_cons_succ]
  refine take_at (i := 5) (v := ?v51) rfl (by kernel_rfl) (by kernel_rfl) (by kernel_rfl) (fun _ _ _ h => h) (Or.inl ⟨by rfl, ?y51⟩) hHeld ?t51
  case y51 => (intro wx hSw; go_simp <;> with_reducible rfl)
  simp only [Act.put, List.setIfInBounds_toArray, List.set_cons_zero, List.set_cons_succ]
  refine take_at (i := 6) (v := ?v52) rfl (by kernel_rfl) (by kernel_rfl) (by kernel_rfl) (fun _ _ _ h => h) (Or.inl ⟨by rfl, ?y52⟩) hHeld ?t52
  case y52 => (intro wx hSw; go_simp <;> with_reducible rfl)
  simp only [Act.put, List.setIfInBounds_toArray, List.set_cons_zero, List.set_cons_succ]
  refine take_at (i := 7) (v := ?v53) rfl (by kernel_rfl) (by kernel_rfl) (by kernel_rfl) (fun _ _ _ h => h) (Or.inl ⟨by rfl, ?y53⟩) hHeld ?t53
  case y53 => (intro wx hSw; have hc2 : wx.cell? ⟨w.heap.size + 1, 2, none⟩ = some (.int .i64 q.2.2) := hSw.2.c 2 (of_decide_eq_true rfl); go_simp <;> with_reducible rfl)
  simp only [Act.put, List.setIfInBounds_toArray, List.set_cons_zero, List.set_cons_succ]
  refine call_at (i := 8) (by kernel_rfl) rfl (fun K hK => ?_)
  go_simp
  refine (rAdd_any b r2.2 p.2.2 q.2.2 _ (f2.new _ _ (by omega) _).drew).mono ?_
  rintro e w3 ⟨rfl, f3, k3⟩
  generalize e3 : addS r2.2 p.2.2 q.2.2 = r3 at f3 ⊢
  have E3 : Hid _ := e3
  clear e3
  have K3 : Kept b w w3 := Kept.trans (K2.new _ _ (by omega) _).drew k3
  have B0_3 : Arr w.heap.size [.int .i64 p.1, .int .i64 p.2.1, .int .i64 p.2.2] w3 := (B0_2.new _ _ (by omega) _).drew.kept k3 (by omega)
  have B1_3 : Arr (w.heap.size + 1) [.int .i64 q.1, .int .i64 q.2.1, .int .i64 q.2.2] w3 := (B1_2.new _ _ (by omega) _).drew.kept k3 (by omega)
  have B2_3 : Arr (w.heap.size + 1 + 1) [.int .i64 0, .int .i64 0, .int .i64 0] w3 := (B2_2.new _ _ (by omega) _).drew.kept k3 (by omega)
  have B3_3 : Arr (w.heap.size + 1 + 1 + 1) [.int .i64 r1.1, .int .i64 r2.1, .int .i64 0] w3 := (B3_2.put 1 (of_decide_eq_true rfl) (.int .i64 r2.1) [.int .i64 r1.1, .int .i64 r2.1, .int .i64 0] rfl).drew.kept k3 (by omega)
  have z3 := B3_3.lies
  clear hHeld
  refine hK.out _ _ ⟨B0_3, B1_3⟩ (fun hHeld => ?_)
  clear hK K K2 f2 B0_2 B1_2 B2_2 B3_2 k3
  refine take_at (i := 9) (v := ?v54) rfl (by kernel_rfl) (by kernel_rfl) (by kernel_rfl) (fun _ _ _ h => h) (Or.inl ⟨by rfl, ?y54⟩) hHeld ?t54
  case y54 => (intro wx hSw; go_simp <;> with_reducible rfl)
  simp only [Act.put, List.setIfInBounds_toArray, List.set_cons_zero, List.set_cons_succ]
  refine call_at (i := 10) (by kernel_rfl) rfl (fun K hK => ?_)
  have c9_B3_2 : w3.cell? ⟨w.heap.size + 1 + 1 + 1, 2, none⟩ = some (.int .i64 0) := B3_3.c 2 (of_decide_eq_true rfl)
  have g9_B3_2 := B3_3.f 2 (of_decide_eq_true rfl)
  go_simp
  clear hHeld
  refine hK.out _ _ ⟨(B0_3.new _ _ (by omega) _), (B1_3.new _ _ (by omega) _)⟩ (fun hHeld => ?_)
  clear hK K c9_B3_2 g9_B3_2
  refine wpAnyH_done (by kernel_rfl) ?_ _
  clear hHeld
  go_wp2_with fail
  rw [rounds_succ]
  have c11_B3_0 : w3.cell? ⟨w.heap.size + 1 + 1 + 1, 0, none⟩ = some (.int .i64 r1.1) := B3_3.c 0 (of_decide_eq_true rfl)
  have c11_B3_1 : w3.cell? ⟨w.heap.size + 1 + 1 + 1, 1, none⟩ = some (.int .i64 r2.1) := B3_3.c 1 (of_decide_eq_true rfl)
  have c11_B3_2 : w3.cell? ⟨w.heap.size + 1 + 1 + 1, 2, none⟩ = some (.int .i64 0) := B3_3.c 2 (of_decide_eq_true rfl)
  go_wp2_with fail
  refine (done_any b r3.2 (r1.1, r2.1, r3.1) _ (f3.new _ _ (by omega) _)).mono ?_
  rintro e w4 ⟨rfl, f4, k4⟩
  generalize e4 : soundS r3.2 (r1.1, r2.1, r3.1) = r4 at f4 ⊢
  have E4 : Hid _ := e4
  clear e4
  have K4 : Kept b w w4 := Kept.trans (K3.new _ _ (by omega) _) k4
  have B0_4 : Arr w.heap.size [.int .i64 p.1, .int .i64 p.2.1, .int .i64 p.2.2] w4 := (B0_3.new _ _ (by omega) _).kept k4 (by omega)
  have B1_4 : Arr (w.heap.size + 1) [.int .i64 q.1, .int .i64 q.2.1, .int .i64 q.2.2] w4 := (B1_3.new _ _ (by omega) _).kept k4 (by omega)
  have B2_4 : Arr (w.heap.size + 1 + 1) [.int .i64 0, .int .i64 0, .int .i64 0] w4 := (B2_3.new _ _ (by omega) _).kept k4 (by omega)
  have B3_4 : Arr (w.heap.size + 1 + 1 + 1) [.int .i64 r1.1, .int .i64 r2.1, .int .i64 r3.1] w4 := (B3_3.put 2 (of_decide_eq_true rfl) (.int .i64 r3.1) [.int .i64 r1.1, .int .i64 r2.1, .int .i64 r3.1] rfl).kept k4 (by omega)
  have z4 := B3_4.lies
  clear c11_B3_0 c11_B3_1 c11_B3_2 K3 f3 B0_3 B1_3 B2_3 B3_3 k4
  have c12_B2_0 : w4.cell? ⟨w.heap.size + 1 + 1, 0, none⟩ = some (.int .i64 0) := B2_4.c 0 (of_decide_eq_true rfl)
  have c12_B2_1 : w4.cell? ⟨w.heap.size + 1 + 1, 1, none⟩ = some (.int .i64 0) := B2_4.c 1 (of_decide_eq_true rfl)
  have c12_B2_2 : w4.cell? ⟨w.heap.size + 1 + 1, 2, none⟩ = some (.int .i64 0) := B2_4.c 2 (of_decide_eq_true rfl)
  have g12_B2_0 := B2_4.f 0 (of_decide_eq_true rfl)
  have g12_B2_1 := B2_4.f 1 (of_decide_eq_true rfl)
  have g12_B2_2 := B2_4.f 2 (of_decide_eq_true rfl)
  go_wp2
  clear c12_B2_0 c12_B2_1 c12_B2_2 g12_B2_0 g12_B2_1 g12_B2_2
  have d0 := Arr.c (B2_4.put 0 (of_decide_eq_true rfl) (.int .i64 r4.1.1) [.int .i64 r4.1.1, .int .i64 0, .int .i64 0] rfl) 0 (of_decide_eq_true rfl)
  have d1 := Arr.c ((B2_4.put 0 (of_decide_eq_true rfl) (.int .i64 r4.1.1) [.int .i64 r4.1.1, .int .i64 0, .int .i64 0] rfl).put 1 (of_decide_eq_true rfl) (.int .i64 r4.1.2.1) [.int .i64 r4.1.1, .int .i64 r4.1.2.1, .int .i64 0] rfl) 1 (of_decide_eq_true rfl)
  have d2 := Arr.c (((B2_4.put 0 (of_decide_eq_true rfl) (.int .i64 r4.1.1) [.int .i64 r4.1.1, .int .i64 0, .int .i64 0] rfl).put 1 (of_decide_eq_true rfl) (.int .i64 r4.1.2.1) [.int .i64 r4.1.1, .int .i64 r4.1.2.1, .int .i64 0] rfl).put 2 (of_decide_eq_true rfl) (.int .i64 r4.1.2.2) [.int .i64 r4.1.1, .int .i64 r4.1.2.1, .int .i64 r4.1.2.2] rfl) 2 (of_decide_eq_true rfl)
  refine bodyPost_ret (v := .agg #[.int .i64 r4.1.1, .int .i64 r4.1.2.1, .int .i64 r4.1.2.2]) (by simp [results, Try.results36, go_sem, d0, d1, d2]) rfl ?_
  have hs : uAddS bad p q = (r4.1, r4.2) := by unfold uAddS; simp only [E1.out, E2.out, E3.out, E4.out]
  rw [hs]
  exact ⟨rfl, (((f4.new _ _ (by omega) _).new _ _ (by omega) _).new _ _ (by omega) _), (((K4.new _ _ (by omega) _).new _ _ (by omega) _).new _ _ (by omega) _)⟩
set_option maxRecDepth 100000 in
set_option maxHeartbeats 2000000 in
theorem uScale_any (b : Nat) (bad : Bool) (p : V3) (k : Int) (w : World) (hw : Fl b bad w) :
    Calls Try.prog 34 #[.pointer (some ⟨b, 0, none⟩), .agg #[.int .i64 p.1, .int .i64 p.2.1, .int .i64 p.2.2], .int .i64 k] w fun e w' => e = .returned (.agg #[.int .i64 ((uScaleS bad p k).1.1), .int .i64 ((uScaleS bad p k).1.2.1), .int .i64 ((uScaleS bad p k).1.2.2)]) ∧ Fl b (uScaleS bad p k).2 w' ∧ Kept b w w' := by
  have hl := hw.lies
  go_enter Try.func34, Try.ntmps34
  go_wp2_with fail
  refine wp_loop_rounds 4 ?_
  rw [rounds_succ]
  go_wp2_with fail
  refine (rMul_any b bad p.1 k _ (((hw.alloc _).alloc _).alloc _)).mono ?_
  rintro e w1 ⟨rfl, f1, k1⟩
  generalize e1 : mulS bad p.1 k = r1 at f1 ⊢
  have E1 : Hid _ := e1
  clear e1
  have K1 : Kept b w w1 := Kept.trans ((((Kept.refl b w).al _).al _).al _) k1
  have B0_1 : Arr w.heap.size [.int .i64 p.1, .int .i64 p.2.1, .int .i64 p.2.2] w1 := (((Arr_at _ _ [.int .i64 p.1, .int .i64 p.2.1, .int .i64 p.2.2] _ (by simp)).alloc _).alloc _).kept k1 (by omega)
  have B1_1 : Arr (w.heap.size + 1) [.int .i64 0, .int .i64 0, .int .i64 0] w1 := ((Arr_at _ _ [.int .i64 0, .int .i64 0, .int .i64 0] _ (by simp)).alloc _).kept k1 (by omega)
  have B2_1 : Arr (w.heap.size + 1 + 1) [.int .i64 0, .int .i64 0, .int .i64 0] w1 := (Arr_at _ _ [.int .i64 0, .int .i64 0, .int .i64 0] _ (by simp)).kept k1 (by omega)
  have z1 := B2_1.lies
  clear k1
  have c3_B2_0 : w1.cell? ⟨w.heap.size + 1 + 1, 0, none⟩ = some (.int .i64 0) := B2_1.c 0 (of_decide_eq_true rfl)
  have g3_B2_0 := B2_1.f 0 (of_decide_eq_true rfl)
  go_wp2_with fail
  clear c3_B2_0 g3_B2_0
  rw [rounds_succ]
  have c4_B0_1 : w1.cell? ⟨w.heap.size, 1, none⟩ = some (.int .i64 p.2.1) := B0_1.c 1 (of_decide_eq_true rfl)
  go_wp2_with fail
  refine (rMul_any b r1.2 p.2.1 k _ (f1.new _ _ (by omega) _)).mono ?_
  rintro e w2 ⟨rfl, f2, k2⟩
  generalize e2 : mulS r1.2 p.2.1 k = r2 at f2 ⊢
  have E2 : Hid _ := e2
  clear e2
  have K2 : Kept b w w2 := Kept.trans (K1.new _ _ (by omega) _) k2
  have B0_2 : Arr w.heap.size [.int .i64 p.1, .int .i64 p.2.1, .int .i64 p.2.2] w2 := (B0_1.new _ _ (by omega) _).kept k2 (by omega)
  have B1_2 : Arr (w.heap.size + 1) [.int .i64 0, .int .i64 0, .int .i64 0] w2 := (B1_1.new _ _ (by omega) _).kept k2 (by omega)
  have B2_2 : Arr (w.heap.size + 1 + 1) [.int .i64 r1.1, .int .i64 0, .int .i64 0] w2 := (B2_1.put 0 (of_decide_eq_true rfl) (.int .i64 r1.1) [.int .i64 r1.1, .int .i64 0, .int .i64 0] rfl).kept k2 (by omega)
  have z2 := B2_2.lies
  clear c4_B0_1 K1 f1 B0_1 B1_1 B2_1 k2
  have c5_B2_1 : w2.cell? ⟨w.heap.size + 1 + 1, 1, none⟩ = some (.int .i64 0) := B2_2.c 1 (of_decide_eq_true rfl)
  have g5_B2_1 := B2_2.f 1 (of_decide_eq_true rfl)
  go_wp2_with fail
  clear c5_B2_1 g5_B2_1
  rw [rounds_succ]
  have c6_B0_2 : w2.cell? ⟨w.heap.size, 2, none⟩ = some (.int .i64 p.2.2) := B0_2.c 2 (of_decide_eq_true rfl)
  go_wp2_with fail
  refine (rMul_any b r2.2 p.2.2 k _ (f2.new _ _ (by omega) _)).mono ?_
  rintro e w3 ⟨rfl, f3, k3⟩
  generalize e3 : mulS r2.2 p.2.2 k = r3 at f3 ⊢
  have E3 : Hid _ := e3
  clear e3
  have K3 : Kept b w w3 := Kept.trans (K2.new _ _ (by omega) _) k3
  have B0_3 : Arr w.heap.size [.int .i64 p.1, .int .i64 p.2.1, .int .i64 p.2.2] w3 := (B0_2.new _ _ (by omega) _).kept k3 (by omega)
  have B1_3 : Arr (w.heap.size + 1) [.int .i64 0, .int .i64 0, .int .i64 0] w3 := (B1_2.new _ _ (by omega) _).kept k3 (by omega)
  have B2_3 : Arr (w.heap.size + 1 + 1) [.int .i64 r1.1, .int .i64 r2.1, .int .i64 0] w3 := (B2_2.put 1 (of_decide_eq_true rfl) (.int .i64 r2.1) [.int .i64 r1.1, .int .i64 r2.1, .int .i64 0] rfl).kept k3 (by omega)
  have z3 := B2_3.lies
  clear c6_B0_2 K2 f2 B0_2 B1_2 B2_2 k3
  have c7_B2_2 : w3.cell? ⟨w.heap.size + 1 + 1, 2, none⟩ = some (.int .i64 0) := B2_3.c 2 (of_decide_eq_true rfl)
  have g7_B2_2 := B2_3.f 2 (of_decide_eq_true rfl)
  go_wp2_with fail
  clear c7_B2_2 g7_B2_2
  rw [rounds_succ]
  have c8_B2_0 : w3.cell? ⟨w.heap.size + 1 + 1, 0, none⟩ = some (.int .i64 r1.1) := B2_3.c 0 (of_decide_eq_true rfl)
  have c8_B2_1 : w3.cell? ⟨w.heap.size + 1 + 1, 1, none⟩ = some (.int .i64 r2.1) := B2_3.c 1 (of_decide_eq_true rfl)
  have c8_B2_2 : w3.cell? ⟨w.heap.size + 1 + 1, 2, none⟩ = some (.int .i64 0) := B2_3.c 2 (of_decide_eq_true rfl)
  go_wp2_with fail
  refine (done_any b r3.2 (r1.1, r2.1, r3.1) _ (f3.new _ _ (by omega) _)).mono ?_
  rintro e w4 ⟨rfl, f4, k4⟩
  generalize e4 : soundS r3.2 (r1.1, r2.1, r3.1) = r4 at f4 ⊢
  have E4 : Hid _ := e4
  clear e4
  have K4 : Kept b w w4 := Kept.trans (K3.new _ _ (by omega) _) k4
  have B0_4 : Arr w.heap.size [.int .i64 p.1, .int .i64 p.2.1, .int .i64 p.2.2] w4 := (B0_3.new _ _ (by omega) _).kept k4 (by omega)
  have B1_4 : Arr (w.heap.size + 1) [.int .i64 0, .int .i64 0, .int .i64 0] w4 := (B1_3.new _ _ (by omega) _).kept k4 (by omega)
  have B2_4 : Arr (w.heap.size + 1 + 1) [.int .i64 r1.1, .int .i64 r2.1, .int .i64 r3.1] w4 := (B2_3.put 2 (of_decide_eq_true rfl) (.int .i64 r3.1) [.int .i64 r1.1, .int .i64 r2.1, .int .i64 r3.1] rfl).kept k4 (by omega)
  have z4 := B2_4.lies
  clear c8_B2_0 c8_B2_1 c8_B2_2 K3 f3 B0_3 B1_3 B2_3 k4
  have c9_B1_0 : w4.cell? ⟨w.heap.size + 1, 0, none⟩ = some (.int .i64 0) := B1_4.c 0 (of_decide_eq_true rfl)
  have c9_B1_1 : w4.cell? ⟨w.heap.size + 1, 1, none⟩ = some (.int .i64 0) := B1_4.c 1 (of_decide_eq_true rfl)
  have c9_B1_2 : w4.cell? ⟨w.heap.size + 1, 2, none⟩ = some (.int .i64 0) := B1_4.c 2 (of_decide_eq_true rfl)
  have g9_B1_0 := B1_4.f 0 (of_decide_eq_true rfl)
  have g9_B1_1 := B1_4.f 1 (of_decide_eq_true rfl)
  have g9_B1_2 := B1_4.f 2 (of_decide_eq_true rfl)
  go_wp2
  clear c9_B1_0 c9_B1_1 c9_B1_2 g9_B1_0 g9_B1_1 g9_B1_2
  have d0 := Arr.c (B1_4.put 0 (of_decide_eq_true rfl) (.int .i64 r4.1.1) [.int .i64 r4.1.1, .int .i64 0, .int .i64 0] rfl) 0 (of_decide_eq_true rfl)
  have d1 := Arr.c ((B1_4.put 0 (of_decide_eq_true rfl) (.int .i64 r4.1.1) [.int .i64 r4.1.1, .int .i64 0, .int .i64 0] rfl).put 1 (of_decide_eq_true rfl) (.int .i64 r4.1.2.1) [.int .i64 r4.1.1, .int .i64 r4.1.2.1, .int .i64 0] rfl) 1 (of_decide_eq_true rfl)
  have d2 := Arr.c (((B1_4.put 0 (of_decide_eq_true rfl) (.int .i64 r4.1.1) [.int .i64 r4.1.1, .int .i64 0, .int .i64 0] rfl).put 1 (of_decide_eq_true rfl) (.int .i64 r4.1.2.1) [.int .i64 r4.1.1, .int .i64 r4.1.2.1, .int .i64 0] rfl).put 2 (of_decide_eq_true rfl) (.int .i64 r4.1.2.2) [.int .i64 r4.1.1, .int .i64 r4.1.2.1, .int .i64 r4.1.2.2] rfl) 2 (of_decide_eq_true rfl)
  refine bodyPost_ret (v := .agg #[.int .i64 r4.1.1, .int .i64 r4.1.2.1, .int .i64 r4.1.2.2]) (by simp [results, Try.results34, go_sem, d0, d1, d2]) rfl ?_
  have hs : uScaleS bad p k = (r4.1, r4.2) := by unfold uScaleS; simp only [E1.out, E2.out, E3.out, E4.out]
  rw [hs]
  exact ⟨rfl, (((f4.new _ _ (by omega) _).new _ _ (by omega) _).new _ _ (by omega) _), (((K4.new _ _ (by omega) _).new _ _ (by omega) _).new _ _ (by omega) _)⟩
set_option maxRecDepth 100000 in
set_option maxHeartbeats 2000000 in
theorem uDot_any (b : Nat) (bad : Bool) (p : V3) (q : V3) (w : World) (hw : Fl b bad w) :
    Calls Try.prog 39 #[.pointer (some ⟨b, 0, none⟩), .agg #[.int .i64 p.1, .int .i64 p.2.1, .int .i64 p.2.2], .agg #[.int .i64 q.1, .int .i64 q.2.1, .int .i64 q.2.2]] w fun e w' => e = .returned (.int .i64 ((uDotS bad p q).1)) ∧ Fl b (uDotS bad p q).2 w' ∧ Kept b w w' := by
  have hl := hw.lies
  go_enter Try.func39, Try.ntmps39
  go_wp2_with fail
  refine (rMul_any b bad p.1 q.1 _ ((hw.alloc _).alloc _)).mono ?_
  rintro e w1 ⟨rfl, f1, k1⟩
  generalize e1 : mulS bad p.1 q.1 = r1 at f1 ⊢
  have E1 : Hid _ := e1
  clear e1
  have K1 : Kept b w w1 := Kept.trans (((Kept.refl b w).al _).al _) k1
  have B0_1 : Arr w.heap.size [.int .i64 p.1, .int .i64 p.2.1, .int .i64 p.2.2] w1 := ((Arr_at _ _ [.int .i64 p.1, .int .i64 p.2.1, .int .i64 p.2.2] _ (by simp)).alloc _).kept k1 (by omega)
  have B1_1 : Arr (w.heap.size + 1) [.int .i64 q.1, .int .i64 q.2.1, .int .i64 q.2.2] w1 := (Arr_at _ _ [.int .i64 q.1, .int .i64 q.2.1, .int .i64 q.2.2] _ (by simp)).kept k1 (by omega)
  have z1 := B1_1.lies
  clear k1
  have c2_B0_1 : w1.cell? ⟨w.heap.size, 1, none⟩ = some (.int .i64 p.2.1) := B0_1.c 1 (of_decide_eq_true rfl)
  have c2_B1_1 : w1.cell? ⟨w.heap.size + 1, 1, none⟩ = some (.int .i64 q.2.1) := B1_1.c 1 (of_decide_eq_true rfl)
  go_wp2_with fail
  refine (rMul_any b r1.2 p.2.1 q.2.1 _ f1).mono ?_
  rintro e w2 ⟨rfl, f2, k2⟩
  generalize e2 : mulS r1.2 p.2.1 q.2.1 = r2 at f2 ⊢
  have E2 : Hid _ := e2
  clear e2
  have K2 : Kept b w w2 := Kept.trans K1 k2
  have B0_2 : Arr w.heap.size [.int .i64 p.1, .int .i64 p.2.1, .int .i64 p.2.2] w2 := B0_1.kept k2 (by omega)
  have B1_2 : Arr (w.heap.size + 1) [.int .i64 q.1, .int .i64 q.2.1, .int .i64 q.2.2] w2 := B1_1.kept k2 (by omega)
  have z2 := B1_2.lies
  clear c2_B0_1 c2_B1_1 K1 f1 B0_1 B1_1 k2
  have c3_B0_2 : w2.cell? ⟨w.heap.size, 2, none⟩ = some (.int .i64 p.2.2) := B0_2.c 2 (of_decide_eq_true rfl)
  have c3_B1_2 : w2.cell? ⟨w.heap.size + 1, 2, none⟩ = some (.int .i64 q.2.2) := B1_2.c 2 (of_decide_eq_true rfl)
  go_wp2_with fail
  refine (rMul_any b r2.2 p.2.2 q.2.2 _ f2).mono ?_
  rintro e w3 ⟨rfl, f3, k3⟩
  generalize e3 : mulS r2.2 p.2.2 q.2.2 = r3 at f3 ⊢
  have E3 : Hid _ := e3
  clear e3
  have K3 : Kept b w w3 := Kept.trans K2 k3
  have B0_3 : Arr w.heap.size [.int .i64 p.1, .int .i64 p.2.1, .int .i64 p.2.2] w3 := B0_2.kept k3 (by omega)
  have B1_3 : Arr (w.heap.size + 1) [.int .i64 q.1, .int .i64 q.2.1, .int .i64 q.2.2] w3 := B1_2.kept k3 (by omega)
  have z3 := B1_3.lies
  clear c3_B0_2 c3_B1_2 K2 f2 B0_2 B1_2 k3
  go_wp2_with fail
  refine (rAdd_any b r3.2 r1.1 r2.1 _ f3).mono ?_
  rintro e w4 ⟨rfl, f4, k4⟩
  generalize e4 : addS r3.2 r1.1 r2.1 = r4 at f4 ⊢
  have E4 : Hid _ := e4
  clear e4
  have K4 : Kept b w w4 := Kept.trans K3 k4
  have B0_4 : Arr w.heap.size [.int .i64 p.1, .int .i64 p.2.1, .int .i64 p.2.2] w4 := B0_3.kept k4 (by omega)
  have B1_4 : Arr (w.heap.size + 1) [.int .i64 q.1, .int .i64 q.2.1, .int .i64 q.2.2] w4 := B1_3.kept k4 (by omega)
  have z4 := B1_4.lies
  clear K3 f3 B0_3 B1_3 k4
  go_wp2_with fail
  refine (rAdd_any b r4.2 r4.1 r3.1 _ f4).mono ?_
  rintro e w5 ⟨rfl, f5, k5⟩
  generalize e5 : addS r4.2 r4.1 r3.1 = r5 at f5 ⊢
  have E5 : Hid _ := e5
  clear e5
  have K5 : Kept b w w5 := Kept.trans K4 k5
  have B0_5 : Arr w.heap.size [.int .i64 p.1, .int .i64 p.2.1, .int .i64 p.2.2] w5 := B0_4.kept k5 (by omega)
  have B1_5 : Arr (w.heap.size + 1) [.int .i64 q.1, .int .i64 q.2.1, .int .i64 q.2.2] w5 := B1_4.kept k5 (by omega)
  have z5 := B1_5.lies
  clear K4 f4 B0_4 B1_4 k5
  go_wp2
  go_ret
  have hs : uDotS bad p q = (r5.1, r5.2) := by unfold uDotS; simp only [E1.out, E2.out, E3.out, E4.out, E5.out]
  rw [hs]
  exact ⟨rfl, f5, K5⟩
end Go.Proofs.Yteooceapkkdcpab
