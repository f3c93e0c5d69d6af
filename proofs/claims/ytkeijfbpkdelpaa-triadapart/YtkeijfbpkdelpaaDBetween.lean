/-
  Walks of package triad, for the seat Ytkeijfbpkdelpaa. (Made by mktriad.py.)
-/
import Derived.Test.YtkeijfbpkdelpaaDSpec
import Derived.Test.YtkeijfbpkdelpaaVMem
import Derived.Test.YtkeijfbpkdelpaaMeth
import Derived.Test.YtkeijfbpkdelpaaVFold
import Derived.Test.YtkeijfbpkdelpaaStop
import Derived.Handy
import Derived.Deep.RegionHeld3
namespace Go.Proofs.Ytkeijfbpkdelpaa
open Go.RowKit

set_option maxRecDepth 100000 in
set_option maxHeartbeats 2000000 in
theorem dbetween_any (b : Nat) (bad : Bool) (p : V9) (q : V9) (w : World) (hw : Fl b bad w) :
    Calls Try.prog 23 #[.pointer (some ⟨b, 0, none⟩), .agg #[.int .i64 p.1, .int .i64 p.2.1, .int .i64 p.2.2.1, .int .i64 p.2.2.2.1, .int .i64 p.2.2.2.2.1, .int .i64 p.2.2.2.2.2.1, .int .i64 p.2.2.2.2.2.2.1, .int .i64 p.2.2.2.2.2.2.2.1, .int .i64 p.2.2.2.2.2.2.2.2], .agg #[.int .i64 q.1, .int .i64 q.2.1, .int .i64 q.2.2.1, .int .i64 q.2.2.2.1, .int .i64 q.2.2.2.2.1, .int .i64 q.2.2.2.2.2.1, .int .i64 q.2.2.2.2.2.2.1, .int .i64 q.2.2.2.2.2.2.2.1, .int .i64 q.2.2.2.2.2.2.2.2]] w fun e w' => e = .returned (.agg #[.int .i64 ((dbetweenS bad p q).1.1), .int .i64 ((dbetweenS bad p q).1.2.1), .int .i64 ((dbetweenS bad p q).1.2.2.1), .int .i64 ((dbetweenS bad p q).1.2.2.2.1), .int .i64 ((dbetweenS bad p q).1.2.2.2.2.1), .int .i64 ((dbetweenS bad p q).1.2.2.2.2.2.1), .int .i64 ((dbetweenS bad p q).1.2.2.2.2.2.2.1), .int .i64 ((dbetweenS bad p q).1.2.2.2.2.2.2.2.1), .int .i64 ((dbetweenS bad p q).1.2.2.2.2.2.2.2.2)]) ∧ Fl b (dbetweenS bad p q).2 w' ∧ Kept b w w' := by
  have hl := hw.lies
  go_enter Try.func23, Try.ntmps23
  go_wp2_with fail
  refine wp_loop_rounds 4 ?_
  rw [rounds_succ]
  go_wp2_with fail
  refine wp_loop_rounds 4 ?_
  rw [rounds_succ]
  go_wp2_with fail
  refine wp_region_held_drew (S := fun w' => Arr (w.heap.size + 1) [.int .i64 q.1, .int .i64 q.2.1, .int .i64 q.2.2.1, .int .i64 q.2.2.2.1, .int .i64 q.2.2.2.2.1, .int .i64 q.2.2.2.2.2.1, .int .i64 q.2.2.2.2.2.2.1, .int .i64 q.2.2.2.2.2.2.2.1, .int .i64 q.2.2.2.2.2.2.2.2] w' ∧ Arr w.heap.size [.int .i64 p.1, .int .i64 p.2.1, .int .i64 p.2.2.1, .int .i64 p.2.2.2.1, .int .i64 p.2.2.2.2.1, .int .i64 p.2.2.2.2.2.1, .int .i64 p.2.2.2.2.2.2.1, .int .i64 p.2.2.2.2.2.2.2.1, .int .i64 p.2.2.2.2.2.2.2.2] w') (by kernel_rfl) ⟨((Arr_at _ _ [.int .i64 q.1, .int .i64 q.2.1, .int .i64 q.2.2.1, .int .i64 q.2.2.2.1, .int .i64 q.2.2.2.2.1, .int .i64 q.2.2.2.2.2.1, .int .i64 q.2.2.2.2.2.2.1, .int .i64 q.2.2.2.2.2.2.2.1, .int .i64 q.2.2.2.2.2.2.2.2] _ (by simp)).alloc _).drew, (((Arr_at _ _ [.int .i64 p.1, .int .i64 p.2.1, .int .i64 p.2.2.1, .int .i64 p.2.2.2.1, .int .i64 p.2.2.2.2.1, .int .i64 p.2.2.2.2.2.1, .int .i64 p.2.2.2.2.2.2.1, .int .i64 p.2.2.2.2.2.2.2.1, .int .i64 p.2.2.2.2.2.2.2.2] _ (by simp)).alloc _).alloc _).drew⟩ (fun hHeld => ?_)
  refine take_at (i := 0) (v := ?v694) rfl (by kernel_rfl) (by kernel_rfl) (by kernel_rfl) (fun _ _ _ h => h) (Or.inl ⟨by rfl, ?y694⟩) hHeld ?t694
  case y694 => (intro wx hSw; go_simp <;> with_reducible rfl)
  simp only [Act.put, List.setIfInBounds_toArray, List.set_cons_zero, List.set_cons_succ]
  refine take_at (i := 1) (v := ?v695) rfl (by kernel_rfl) (by kernel_rfl) (by kernel_rfl) (fun _ _ _ h => h) (Or.inl ⟨by rfl, ?y695⟩) hHeld ?t695
  case y695 => (intro wx hSw; go_simp <;> with_reducible rfl)
  simp only [Act.put, List.setIfInBounds_toArray, List.set_cons_zero, List.set_cons_succ]
  refine take_at (i := 2) (v := ?v696) rfl (by kernel_rfl) (by kernel_rfl) (by kernel_rfl) (fun _ _ _ h => h) (Or.inl ⟨by rfl, ?y696⟩) hHeld ?t696
  case y696 => (intro wx hSw; go_simp <;> with_reducible rfl)
  simp only [Act.put, List.setIfInBounds_toArray, List.set_cons_zero, List.set_cons_succ]
  refine take_at (i := 3) (v := ?v697) rfl (by kernel_rfl) (by kernel_rfl) (by kernel_rfl) (fun _ _ _ h => h) (Or.inl ⟨by rfl, ?y697⟩) hHeld ?t697
  case y697 => (intro wx hSw; go_simp <;> with_reducible rfl)
  simp only [Act.put, List.setIfInBounds_toArray, List.set_cons_zero, List.set_cons_succ]
  refine take_at (i := 4) (v := ?v698) rfl (by kernel_rfl) (by kernel_rfl) (by kernel_rfl) (fun _ _ _ h => h) (Or.inl ⟨by rfl, ?y698⟩) hHeld ?t698
  case y698 => (intro wx hSw; go_simp <;> with_reducible rfl)
  simp only [Act.put, List.setIfInBounds_toArray, List.set_cons_zero, List.set_cons_succ]
  refine take_at (i := 5) (v := ?v699) rfl (by kernel_rfl) (by kernel_rfl) (by kernel_rfl) (fun _ _ _ h => h) (Or.inl ⟨by rfl, ?y699⟩) hHeld ?t699
  case y699 => (intro wx hSw; go_simp <;> with_reducible rfl)
  simp only [Act.put, List.setIfInBounds_toArray, List.set_cons_zero, List.set_cons_succ]
  refine take_at (i := 6) (v := ?v700) rfl (by kernel_rfl) (by kernel_rfl) (by kernel_rfl) (fun _ _ _ h => h) (Or.inl ⟨by rfl, ?y700⟩) hHeld ?t700
  case y700 => (intro wx hSw; go_simp <;> with_reducible rfl)
  simp only [Act.put, List.setIfInBounds_toArray, List.set_cons_zero, List.set_cons_succ]
  refine take_at (i := 7) (v := ?v701) rfl (by kernel_rfl) (by kernel_rfl) (by kernel_rfl) (fun _ _ _ h => h) (Or.inl ⟨by rfl, ?y701⟩) hHeld ?t701
  case y701 => (intro wx hSw; go_simp <;> with_reducible rfl)
  simp only [Act.put, List.setIfInBounds_toArray, List.set_cons_zero, List.set_cons_succ]
  refine take_at (i := 8) (v := ?v702) rfl (by kernel_rfl) (by kernel_rfl) (by kernel_rfl) (fun _ _ _ h => h) (Or.inl ⟨by rfl, ?y702⟩) hHeld ?t702
  case y702 => (intro wx hSw; have hc0 : wx.cell? ⟨w.heap.size + 1, 0, none⟩ = some (.int .i64 q.1) := hSw.1.c 0 (of_decide_eq_true rfl); go_simp <;> with_reducible rfl)
  simp only [Act.put, List.setIfInBounds_toArray, List.set_cons_zero, List.set_cons_succ]
  refine take_at (i := 9) (v := ?v703) rfl (by kernel_rfl) (by kernel_rfl) (by kernel_rfl) (fun _ _ _ h => h) (Or.inl ⟨by rfl, ?y703⟩) hHeld ?t703
  case y703 => (intro wx hSw; go_simp <;> with_reducible rfl)
  simp only [Act.put, List.setIfInBounds_toArray, List.set_cons_zero, List.set_cons_succ]
  refine take_at (i := 10) (v := ?v704) rfl (by kernel_rfl) (by kernel_rfl) (by kernel_rfl) (fun _ _ _ h => h) (Or.inl ⟨by rfl, ?y704⟩) hHeld ?t704
  case y704 => (intro wx hSw; go_simp <;> with_reducible rfl)
  simp only [Act.put, List.setIfInBounds_toArray, List.set_cons_zero, List.set_cons_succ]
  refine take_at (i := 11) (v := ?v705) rfl (by kernel_rfl) (by kernel_rfl) (by kernel_rfl) (fun _ _ _ h => h) (Or.inl ⟨by rfl, ?y705⟩) hHeld ?t705
  case y705 => (intro wx hSw; go_simp <;> with_reducible rfl)
  simp only [Act.put, List.setIfInBounds_toArray, List.set_cons_zero, List.set_cons_succ]
  refine take_at (i := 12) (v := ?v706) rfl (by kernel_rfl) (by kernel_rfl) (by kernel_rfl) (fun _ _ _ h => h) (Or.inl ⟨by rfl, ?y706⟩) hHeld ?t706
  case y706 => (intro wx hSw; have hc0 : wx.cell? ⟨w.heap.size, 0, none⟩ = some (.int .i64 p.1) := hSw.2.c 0 (of_decide_eq_true rfl); go_simp <;> with_reducible rfl)
  simp only [Act.put, List.setIfInBounds_toArray, List.set_cons_zero, List.set_cons_succ]
  refine take_at (i := 14) (v := ?v707) rfl (by kernel_rfl) (by kernel_rfl) (by kernel_rfl) (fun _ _ _ h => h) (Or.inl ⟨by rfl, ?y707⟩) hHeld ?t707
  case y707 => (intro wx hSw; go_simp <;> with_reducible rfl)
  simp only [Act.put, List.setIfInBounds_toArray, List.set_cons_zero, List.set_cons_succ]
  refine take_at (i := 15) (v := ?v708) rfl (by kernel_rfl) (by kernel_rfl) (by kernel_rfl) (fun _ _ _ h => h) (Or.inl ⟨by rfl, ?y708⟩) hHeld ?t708
  case y708 => (intro wx hSw; go_simp <;> with_reducible rfl)
  simp only [Act.put, List.setIfInBounds_toArray, List.set_cons_zero, List.set_cons_succ]
  refine take_at (i := 16) (v := ?v709) rfl (by kernel_rfl) (by kernel_rfl) (by kernel_rfl) (fun _ _ _ h => h) (Or.inl ⟨by rfl, ?y709⟩) hHeld ?t709
  case y709 => (intro wx hSw; go_simp <;> with_reducible rfl)
  simp only [Act.put, List.setIfInBounds_toArray, List.set_cons_zero, List.set_cons_succ]
  refine take_at (i := 17) (v := ?v710) rfl (by kernel_rfl) (by kernel_rfl) (by kernel_rfl) (fun _ _ _ h => h) (Or.inl ⟨by rfl, ?y710⟩) hHeld ?t710
  case y710 => (intro wx hSw; go_simp <;> with_reducible rfl)
  simp only [Act.put, List.setIfInBounds_toArray, List.set_cons_zero, List.set_cons_succ]
  refine take_at (i := 18) (v := ?v711) rfl (by kernel_rfl) (by kernel_rfl) (by kernel_rfl) (fun _ _ _ h => h) (Or.inl ⟨by rfl, ?y711⟩) hHeld ?t711
  case y711 => (intro wx hSw; have hc3 : wx.cell? ⟨w.heap.size + 1, 3, none⟩ = some (.int .i64 q.2.2.2.1) := hSw.1.c 3 (of_decide_eq_true rfl); go_simp <;> with_reducible rfl)
  simp only [Act.put, List.setIfInBounds_toArray, List.set_cons_zero, List.set_cons_succ]
  refine take_at (i := 19) (v := ?v712) rfl (by kernel_rfl) (by kernel_rfl) (by kernel_rfl) (fun _ _ _ h => h) (Or.inl ⟨by rfl, ?y712⟩) hHeld ?t712
  case y712 => (intro wx hSw; go_simp <;> with_reducible rfl)
  simp only [Act.put, List.setIfInBounds_toArray, List.set_cons_zero, List.set_cons_succ]
  refine take_at (i := 20) (v := ?v713) rfl (by kernel_rfl) (by kernel_rfl) (by kernel_rfl) (fun _ _ _ h => h) (Or.inl ⟨by rfl, ?y713⟩) hHeld ?t713
  case y713 => (intro wx hSw; go_simp <;> with_reducible rfl)
  simp only [Act.put, List.setIfInBounds_toArray, List.set_cons_zero, List.set_cons_succ]
  refine take_at (i := 21) (v := ?v714) rfl (by kernel_rfl) (by kernel_rfl) (by kernel_rfl) (fun _ _ _ h => h) (Or.inl ⟨by rfl, ?y714⟩) hHeld ?t714
  case y714 => (intro wx hSw; go_simp <;> with_reducible rfl)
  simp only [Act.put, List.setIfInBounds_toArray, List.set_cons_zero, List.set_cons_succ]
  refine take_at (i := 22) (v := ?v715) rfl (by kernel_rfl) (by kernel_rfl) (by kernel_rfl) (fun _ _ _ h => h) (Or.inl ⟨by rfl, ?y715⟩) hHeld ?t715
  case y715 => (intro wx hSw; have hc3 : wx.cell? ⟨w.heap.size, 3, none⟩ = some (.int .i64 p.2.2.2.1) := hSw.2.c 3 (of_decide_eq_true rfl); go_simp <;> with_reducible rfl)
  simp only [Act.put, List.setIfInBounds_toArray, List.set_cons_zero, List.set_cons_succ]
  refine take_at (i := 25) (v := ?v716) rfl (by kernel_rfl) (by kernel_rfl) (by kernel_rfl) (fun _ _ _ h => h) (Or.inl ⟨by rfl, ?y716⟩) hHeld ?t716
  case y716 => (intro wx hSw; go_simp <;> with_reducible rfl)
  simp only [Act.put, List.setIfInBounds_toArray, List.set_cons_zero, List.set_cons_succ]
  refine take_at (i := 26) (v := ?v717) rfl (by kernel_rfl) (by kernel_rfl) (by kernel_rfl) (fun _ _ _ h => h) (Or.inl ⟨by rfl, ?y717⟩) hHeld ?t717
  case y717 => (intro wx hSw; go_simp <;> with_reducible rfl)
  simp only [Act.put, List.setIfInBounds_toArray, List.set_cons_zero, List.set_cons_succ]
  refine take_at (i := 27) (v := ?v718) rfl (by kernel_rfl) (by kernel_rfl) (by kernel_rfl) (fun _ _ _ h => h) (Or.inl ⟨by rfl, ?y718⟩) hHeld ?t718
  case y718 => (intro wx hSw; go_simp <;> with_reducible rfl)
  simp only [Act.put, List.setIfInBounds_toArray, List.set_cons_zero, List.set_cons_succ]
  refine take_at (i := 28) (v := ?v719) rfl (by kernel_rfl) (by kernel_rfl) (by kernel_rfl) (fun _ _ _ h => h) (Or.inl ⟨by rfl, ?y719⟩) hHeld ?t719
  case y719 => (intro wx hSw; go_simp <;> with_reducible rfl)
  simp only [Act.put, List.setIfInBounds_toArray, List.set_cons_zero, List.set_cons_succ]
  refine take_at (i := 29) (v := ?v720) rfl (by kernel_rfl) (by kernel_rfl) (by kernel_rfl) (fun _ _ _ h => h) (Or.inl ⟨by rfl, ?y720⟩) hHeld ?t720
  case y720 => (intro wx hSw; have hc6 : wx.cell? ⟨w.heap.size + 1, 6, none⟩ = some (.int .i64 q.2.2.2.2.2.2.1) := hSw.1.c 6 (of_decide_eq_true rfl); go_simp <;> with_reducible rfl)
  simp only [Act.put, List.setIfInBounds_toArray, List.set_cons_zero, List.set_cons_succ]
  refine take_at (i := 30) (v := ?v721) rfl (by kernel_rfl) (by kernel_rfl) (by kernel_rfl) (fun _ _ _ h => h) (Or.inl ⟨by rfl, ?y721⟩) hHeld ?t721
  case y721 => (intro wx hSw; go_simp <;> with_reducible rfl)
  simp only [Act.put, List.setIfInBounds_toArray, List.set_cons_zero, List.set_cons_succ]
  refine take_at (i := 31) (v := ?v722) rfl (by kernel_rfl) (by kernel_rfl) (by kernel_rfl) (fun _ _ _ h => h) (Or.inl ⟨by rfl, ?y722⟩) hHeld ?t722
  case y722 => (intro wx hSw; go_simp <;> with_reducible rfl)
  simp only [Act.put, List.setIfInBounds_toArray, List.set_cons_zero, List.set_cons_succ]
  refine take_at (i := 32) (v := ?v723) rfl (by kernel_rfl) (by kernel_rfl) (by kernel_rfl) (fun _ _ _ h => h) (Or.inl ⟨by rfl, ?y723⟩) hHeld ?t723
  case y723 => (intro wx hSw; go_simp <;> with_reducible rfl)
  simp only [Act.put, List.setIfInBounds_toArray, List.set_cons_zero, List.set_cons_succ]
  refine take_at (i := 33) (v := ?v724) rfl (by kernel_rfl) (by kernel_rfl) (by kernel_rfl) (fun _ _ _ h => h) (Or.inl ⟨by rfl, ?y724⟩) hHeld ?t724
  case y724 => (intro wx hSw; have hc6 : wx.cell? ⟨w.heap.size, 6, none⟩ = some (.int .i64 p.2.2.2.2.2.2.1) := hSw.2.c 6 (of_decide_eq_true rfl); go_simp <;> with_reducible rfl)
  simp only [Act.put, List.setIfInBounds_toArray, List.set_cons_zero, List.set_cons_succ]
  refine take_at (i := 36) (v := ?v725) rfl (by kernel_rfl) (by kernel_rfl) (by kernel_rfl) (fun _ _ _ h => h) (Or.inl ⟨by rfl, ?y725⟩) hHeld ?t725
  case y725 => (intro wx hSw; go_simp <;> with_reducible rfl)
  simp only [Act.put, List.setIfInBounds_toArray, List.set_cons_zero, List.set_cons_succ]
  refine call_at (i := 13) (by kernel_rfl) rfl (fun K hK => ?_)
  go_simp
  refine (Mul_any b bad q.1 p.1 _ (((hw.alloc _).alloc _).alloc _).drew).mono ?_
  rintro e w1 ⟨rfl, f1, k1⟩
  generalize e1 : mulS bad q.1 p.1 = r1 at f1 ⊢
  have E1 : Hid _ := e1
  clear e1
  have K1 : Kept b w w1 := Kept.trans ((((Kept.refl b w).al _).al _).al _).drew k1
  have B0_1 : Arr w.heap.size [.int .i64 p.1, .int .i64 p.2.1, .int .i64 p.2.2.1, .int .i64 p.2.2.2.1, .int .i64 p.2.2.2.2.1, .int .i64 p.2.2.2.2.2.1, .int .i64 p.2.2.2.2.2.2.1, .int .i64 p.2.2.2.2.2.2.2.1, .int .i64 p.2.2.2.2.2.2.2.2] w1 := (((Arr_at _ _ [.int .i64 p.1, .int .i64 p.2.1, .int .i64 p.2.2.1, .int .i64 p.2.2.2.1, .int .i64 p.2.2.2.2.1, .int .i64 p.2.2.2.2.2.1, .int .i64 p.2.2.2.2.2.2.1, .int .i64 p.2.2.2.2.2.2.2.1, .int .i64 p.2.2.2.2.2.2.2.2] _ (by simp)).alloc _).alloc _).drew.kept k1 (by omega)
  have B1_1 : Arr (w.heap.size + 1) [.int .i64 q.1, .int .i64 q.2.1, .int .i64 q.2.2.1, .int .i64 q.2.2.2.1, .int .i64 q.2.2.2.2.1, .int .i64 q.2.2.2.2.2.1, .int .i64 q.2.2.2.2.2.2.1, .int .i64 q.2.2.2.2.2.2.2.1, .int .i64 q.2.2.2.2.2.2.2.2] w1 := ((Arr_at _ _ [.int .i64 q.1, .int .i64 q.2.1, .int .i64 q.2.2.1, .int .i64 q.2.2.2.1, .int .i64 q.2.2.2.2.1, .int .i64 q.2.2.2.2.2.1, .int .i64 q.2.2.2.2.2.2.1, .int .i64 q.2.2.2.2.2.2.2.1, .int .i64 q.2.2.2.2.2.2.2.2] _ (by simp)).alloc _).drew.kept k1 (by omega)
  have B2_1 : Arr (w.heap.size + 1 + 1) [.int .i64 0, .int .i64 0, .int .i64 0, .int .i64 0, .int .i64 0, .int .i64 0, .int .i64 0, .int .i64 0, .int .i64 0] w1 := (Arr_at _ _ [.int .i64 0, .int .i64 0, .int .i64 0, .int .i64 0, .int .i64 0, .int .i64 0, .int .i64 0, .int .i64 0, .int .i64 0] _ (by simp)).drew.kept k1 (by omega)
  have z1 := B2_1.lies
  clear hHeld
  refine hK.out _ _ ⟨B1_1, B0_1⟩ (fun hHeld => ?_)
  clear hK K k1
  refine call_at (i := 23) (by kernel_rfl) rfl (fun K hK => ?_)
  go_simp
  refine (Mul_any b r1.2 q.2.2.2.1 p.2.2.2.1 _ f1).mono ?_
  rintro e w2 ⟨rfl, f2, k2⟩
  generalize e2 : mulS r1.2 q.2.2.2.1 p.2.2.2.1 = r2 at f2 ⊢
  have E2 : Hid _ := e2
  clear e2
  have K2 : Kept b w w2 := Kept.trans K1 k2
  have B0_2 : Arr w.heap.size [.int .i64 p.1, .int .i64 p.2.1, .int .i64 p.2.2.1, .int .i64 p.2.2.2.1, .int .i64 p.2.2.2.2.1, .int .i64 p.2.2.2.2.2.1, .int .i64 p.2.2.2.2.2.2.1, .int .i64 p.2.2.2.2.2.2.2.1, .int .i64 p.2.2.2.2.2.2.2.2] w2 := B0_1.kept k2 (by omega)
  have B1_2 : Arr (w.heap.size + 1) [.int .i64 q.1, .int .i64 q.2.1, .int .i64 q.2.2.1, .int .i64 q.2.2.2.1, .int .i64 q.2.2.2.2.1, .int .i64 q.2.2.2.2.2.1, .int .i64 q.2.2.2.2.2.2.1, .int .i64 q.2.2.2.2.2.2.2.1, .int .i64 q.2.2.2.2.2.2.2.2] w2 := B1_1.kept k2 (by omega)
  have B2_2 : Arr (w.heap.size + 1 + 1) [.int .i64 0, .int .i64 0, .int .i64 0, .int .i64 0, .int .i64 0, .int .i64 0, .int .i64 0, .int .i64 0, .int .i64 0] w2 := B2_1.kept k2 (by omega)
  have z2 := B2_2.lies
  clear hHeld
  refine hK.out _ _ ⟨B1_2, B0_2⟩ (fun hHeld => ?_)
  clear hK K K1 f1 B0_1 B1_1 B2_1 k2
  refine call_at (i := 24) (by kernel_rfl) rfl (fun K hK => ?_)
  go_simp
  refine (Add_any b r2.2 r1.1 r2.1 _ f2).mono ?_
  rintro e w3 ⟨rfl, f3, k3⟩
  generalize e3 : addS r2.2 r1.1 r2.1 = r3 at f3 ⊢
  have E3 : Hid _ := e3
  clear e3
  have K3 : Kept b w w3 := Kept.trans K2 k3
  have B0_3 : Arr w.heap.size [.int .i64 p.1, .int .i64 p.2.1, .int .i64 p.2.2.1, .int .i64 p.2.2.2.1, .int .i64 p.2.2.2.2.1, .int .i64 p.2.2.2.2.2.1, .int .i64 p.2.2.2.2.2.2.1, .int .i64 p.2.2.2.2.2.2.2.1, .int .i64 p.2.2.2.2.2.2.2.2] w3 := B0_2.kept k3 (by omega)
  have B1_3 : Arr (w.heap.size + 1) [.int .i64 q.1, .int .i64 q.2.1, .int .i64 q.2.2.1, .int .i64 q.2.2.2.1, .int .i64 q.2.2.2.2.1, .int .i64 q.2.2.2.2.2.1, .int .i64 q.2.2.2.2.2.2.1, .int .i64 q.2.2.2.2.2.2.2.1, .int .i64 q.2.2.2.2.2.2.2.2] w3 := B1_2.kept k3 (by omega)
  have B2_3 : Arr (w.heap.size + 1 + 1) [.int .i64 0, .int .i64 0, .int .i64 0, .int .i64 0, .int .i64 0, .int .i64 0, .int .i64 0, .int .i64 0, .int .i64 0] w3 := B2_2.kept k3 (by omega)
  have z3 := B2_3.lies
  clear hHeld
  refine hK.out _ _ ⟨B1_3, B0_3⟩ (fun hHeld => ?_)
  clear hK K K2 f2 B0_2 B1_2 B2_2 k3
  refine call_at (i := 34) (by kernel_rfl) rfl (fun K hK => ?_)
  go_simp
  refine (Mul_any b r3.2 q.2.2.2.2.2.2.1 p.2.2.2.2.2.2.1 _ f3).mono ?_
  rintro e w4 ⟨rfl, f4, k4⟩
  generalize e4 : mulS r3.2 q.2.2.2.2.2.2.1 p.2.2.2.2.2.2.1 = r4 at f4 ⊢
  have E4 : Hid _ := e4
  clear e4
  have K4 : Kept b w w4 := Kept.trans K3 k4
  have B0_4 : Arr w.heap.size [.int .i64 p.1, .int .i64 p.2.1, .int .i64 p.2.2.1, .int .i64 p.2.2.2.1, .int .i64 p.2.2.2.2.1, .int .i64 p.2.2.2.2.2.1, .int .i64 p.2.2.2.2.2.2.1, .int .i64 p.2.2.2.2.2.2.2.1, .int .i64 p.2.2.2.2.2.2.2.2] w4 := B0_3.kept k4 (by omega)
  have B1_4 : Arr (w.heap.size + 1) [.int .i64 q.1, .int .i64 q.2.1, .int .i64 q.2.2.1, .int .i64 q.2.2.2.1, .int .i64 q.2.2.2.2.1, .int .i64 q.2.2.2.2.2.1, .int .i64 q.2.2.2.2.2.2.1, .int .i64 q.2.2.2.2.2.2.2.1, .int .i64 q.2.2.2.2.2.2.2.2] w4 := B1_3.kept k4 (by omega)
  have B2_4 : Arr (w.heap.size + 1 + 1) [.int .i64 0, .int .i64 0, .int .i64 0, .int .i64 0, .int .i64 0, .int .i64 0, .int .i64 0, .int .i64 0, .int .i64 0] w4 := B2_3.kept k4 (by omega)
  have z4 := B2_4.lies
  clear hHeld
  refine hK.out _ _ ⟨B1_4, B0_4⟩ (fun hHeld => ?_)
  clear hK K K3 f3 B0_3 B1_3 B2_3 k4
  refine call_at (i := 35) (by kernel_rfl) rfl (fun K hK => ?_)
  go_simp
  refine (Add_any b r4.2 r3.1 r4.1 _ f4).mono ?_
  rintro e w5 ⟨rfl, f5, k5⟩
  generalize e5 : addS r4.2 r3.1 r4.1 = r5 at f5 ⊢
  have E5 : Hid _ := e5
  clear e5
  have K5 : Kept b w w5 := Kept.trans K4 k5
  have B0_5 : Arr w.heap.size [.int .i64 p.1, .int .i64 p.2.1, .int .i64 p.2.2.1, .int .i64 p.2.2.2.1, .int .i64 p.2.2.2.2.1, .int .i64 p.2.2.2.2.2.1, .int .i64 p.2.2.2.2.2.2.1, .int .i64 p.2.2.2.2.2.2.2.1, .int .i64 p.2.2.2.2.2.2.2.2] w5 := B0_4.kept k5 (by omega)
  have B1_5 : Arr (w.heap.size + 1) [.int .i64 q.1, .int .i64 q.2.1, .int .i64 q.2.2.1, .int .i64 q.2.2.2.1, .int .i64 q.2.2.2.2.1, .int .i64 q.2.2.2.2.2.1, .int .i64 q.2.2.2.2.2.2.1, .int .i64 q.2.2.2.2.2.2.2.1, .int .i64 q.2.2.2.2.2.2.2.2] w5 := B1_4.kept k5 (by omega)
  have B2_5 : Arr (w.heap.size + 1 + 1) [.int .i64 0, .int .i64 0, .int .i64 0, .int .i64 0, .int .i64 0, .int .i64 0, .int .i64 0, .int .i64 0, .int .i64 0] w5 := B2_4.kept k5 (by omega)
  have z5 := B2_5.lies
  clear hHeld
  refine hK.out _ _ ⟨B1_5, B0_5⟩ (fun hHeld => ?_)
  clear hK K K4 f4 B0_4 B1_4 B2_4 k5
  refine take_at (i := 37) (v := ?v726) rfl (by kernel_rfl) (by kernel_rfl) (by kernel_rfl) (fun _ _ _ h => h) (Or.inl ⟨by rfl, ?y726⟩) hHeld ?t726
  case y726 => (intro wx hSw; go_simp <;> with_reducible rfl)
  simp only [Act.put, List.setIfInBounds_toArray, List.set_cons_zero, List.set_cons_succ]
  refine call_at (i := 38) (by kernel_rfl) rfl (fun K hK => ?_)
  have c4_B2_0 : w5.cell? ⟨w.heap.size + 1 + 1, 0, none⟩ = some (.int .i64 0) := B2_5.c 0 (of_decide_eq_true rfl)
  have g4_B2_0 := B2_5.f 0 (of_decide_eq_true rfl)
  go_simp
  clear hHeld
  refine hK.out _ _ ⟨(B1_5.new (w.heap.size + 1 + 1) 0 (by omega) (.int .i64 r5.1)), (B0_5.new (w.heap.size + 1 + 1) 0 (by omega) (.int .i64 r5.1))⟩ (fun hHeld => ?_)
  clear hK K c4_B2_0 g4_B2_0
  refine wpAnyH_done (by kernel_rfl) ?_ _
  clear hHeld
  have P5 : Hid (plS bad q.1 p.1 q.2.2.2.1 p.2.2.2.1 q.2.2.2.2.2.2.1 p.2.2.2.2.2.2.1 = r5) := by show _ = _; unfold plS; simp only [E1.out, E2.out, E3.out, E4.out, E5.out]
  clear E1 E2 E3 E4 E5
  go_wp2_with fail
  refine rounds_letter (S := fun w' => Kept b w w' ∧ Fl b r5.2 w' ∧ Arr w.heap.size [.int .i64 p.1, .int .i64 p.2.1, .int .i64 p.2.2.1, .int .i64 p.2.2.2.1, .int .i64 p.2.2.2.2.1, .int .i64 p.2.2.2.2.2.1, .int .i64 p.2.2.2.2.2.2.1, .int .i64 p.2.2.2.2.2.2.2.1, .int .i64 p.2.2.2.2.2.2.2.2] w' ∧ Arr (w.heap.size + 1) [.int .i64 q.1, .int .i64 q.2.1, .int .i64 q.2.2.1, .int .i64 q.2.2.2.1, .int .i64 q.2.2.2.2.1, .int .i64 q.2.2.2.2.2.1, .int .i64 q.2.2.2.2.2.2.1, .int .i64 q.2.2.2.2.2.2.2.1, .int .i64 q.2.2.2.2.2.2.2.2] w' ∧ Arr (w.heap.size + 1 + 1) [.int .i64 r5.1, .int .i64 0, .int .i64 0, .int .i64 0, .int .i64 0, .int .i64 0, .int .i64 0, .int .i64 0, .int .i64 0] w') ⟨(K5.new _ _ (by omega) _), (f5.new (w.heap.size + 1 + 1) 0 (by omega) (.int .i64 r5.1)), (B0_5.new (w.heap.size + 1 + 1) 0 (by omega) (.int .i64 r5.1)), (B1_5.new (w.heap.size + 1 + 1) 0 (by omega) (.int .i64 r5.1)), (B2_5.put 0 (of_decide_eq_true rfl) (.int .i64 r5.1) [.int .i64 r5.1, .int .i64 0, .int .i64 0, .int .i64 0, .int .i64 0, .int .i64 0, .int .i64 0, .int .i64 0, .int .i64 0] rfl)⟩ ?_
  rintro w6 ⟨K6, BF_6, B0_6, B1_6, B2_6⟩
  have z6 := B2_6.lies
  clear K5 f5 B0_5 B1_5 B2_5
  rw [rounds_succ]
  go_wp2_with fail
  refine wp_region_held_drew (S := fun w' => Arr (w.heap.size + 1) [.int .i64 q.1, .int .i64 q.2.1, .int .i64 q.2.2.1, .int .i64 q.2.2.2.1, .int .i64 q.2.2.2.2.1, .int .i64 q.2.2.2.2.2.1, .int .i64 q.2.2.2.2.2.2.1, .int .i64 q.2.2.2.2.2.2.2.1, .int .i64 q.2.2.2.2.2.2.2.2] w' ∧ Arr w.heap.size [.int .i64 p.1, .int .i64 p.2.1, .int .i64 p.2.2.1, .int .i64 p.2.2.2.1, .int .i64 p.2.2.2.2.1, .int .i64 p.2.2.2.2.2.1, .int .i64 p.2.2.2.2.2.2.1, .int .i64 p.2.2.2.2.2.2.2.1, .int .i64 p.2.2.2.2.2.2.2.2] w') (by kernel_rfl) ⟨B1_6.drew, B0_6.drew⟩ (fun hHeld => ?_)
  refine take_at (i := 0) (v := ?v727) rfl (by kernel_rfl) (by kernel_rfl) (by kernel_rfl) (fun _ _ _ h => h) (Or.inl ⟨by rfl, ?y727⟩) hHeld ?t727
  case y727 => (intro wx hSw; go_simp <;> with_reducible rfl)
  simp only [Act.put, List.setIfInBounds_toArray, List.set_cons_zero, List.set_cons_succ]
  refine take_at (i := 1) (v := ?v728) rfl (by kernel_rfl) (by kernel_rfl) (by kernel_rfl) (fun _ _ _ h => h) (Or.inl ⟨by rfl, ?y728⟩) hHeld ?t728
  case y728 => (intro wx hSw; go_simp <;> with_reducible rfl)
  simp only [Act.put, List.setIfInBounds_toArray, List.set_cons_zero, List.set_cons_succ]
  refine take_at (i := 2) (v := ?v729) rfl (by kernel_rfl) (by kernel_rfl) (by kernel_rfl) (fun _ _ _ h => h) (Or.inl ⟨by rfl, ?y729⟩) hHeld ?t729
  case y729 => (intro wx hSw; go_simp <;> with_reducible rfl)
  simp only [Act.put, List.setIfInBounds_toArray, List.set_cons_zero, List.set_cons_succ]
  refine take_at (i := 3) (v := ?v730) rfl (by kernel_rfl) (by kernel_rfl) (by kernel_rfl) (fun _ _ _ h => h) (Or.inl ⟨by rfl, ?y730⟩) hHeld ?t730
  case y730 => (intro wx hSw; go_simp <;> with_reducible rfl)
  simp only [Act.put, List.setIfInBounds_toArray, List.set_cons_zero, List.set_cons_succ]
  refine take_at (i := 4) (v := ?v731) rfl (by kernel_rfl) (by kernel_rfl) (by kernel_rfl) (fun _ _ _ h => h) (Or.inl ⟨by rfl, ?y731⟩) hHeld ?t731
  case y731 => (intro wx hSw; go_simp <;> with_reducible rfl)
  simp only [Act.put, List.setIfInBounds_toArray, List.set_cons_zero, List.set_cons_succ]
  refine take_at (i := 5) (v := ?v732) rfl (by kernel_rfl) (by kernel_rfl) (by kernel_rfl) (fun _ _ _ h => h) (Or.inl ⟨by rfl, ?y732⟩) hHeld ?t732
  case y732 => (intro wx hSw; go_simp <;> with_reducible rfl)
  simp only [Act.put, List.setIfInBounds_toArray, List.set_cons_zero, List.set_cons_succ]
  refine take_at (i := 6) (v := ?v733) rfl (by kernel_rfl) (by kernel_rfl) (by kernel_rfl) (fun _ _ _ h => h) (Or.inl ⟨by rfl, ?y733⟩) hHeld ?t733
  case y733 => (intro wx hSw; go_simp <;> with_reducible rfl)
  simp only [Act.put, List.setIfInBounds_toArray, List.set_cons_zero, List.set_cons_succ]
  refine take_at (i := 7) (v := ?v734) rfl (by kernel_rfl) (by kernel_rfl) (by kernel_rfl) (fun _ _ _ h => h) (Or.inl ⟨by rfl, ?y734⟩) hHeld ?t734
  case y734 => (intro wx hSw; go_simp <;> with_reducible rfl)
  simp only [Act.put, List.setIfInBounds_toArray, List.set_cons_zero, List.set_cons_succ]
  refine take_at (i := 8) (v := ?v735) rfl (by kernel_rfl) (by kernel_rfl) (by kernel_rfl) (fun _ _ _ h => h) (Or.inl ⟨by rfl, ?y735⟩) hHeld ?t735
  case y735 => (intro wx hSw; have hc0 : wx.cell? ⟨w.heap.size + 1, 0, none⟩ = some (.int .i64 q.1) := hSw.1.c 0 (of_decide_eq_true rfl); go_simp <;> with_reducible rfl)
  simp only [Act.put, List.setIfInBounds_toArray, List.set_cons_zero, List.set_cons_succ]
  refine take_at (i := 9) (v := ?v736) rfl (by kernel_rfl) (by kernel_rfl) (by kernel_rfl) (fun _ _ _ h => h) (Or.inl ⟨by rfl, ?y736⟩) hHeld ?t736
  case y736 => (intro wx hSw; go_simp <;> with_reducible rfl)
  simp only [Act.put, List.setIfInBounds_toArray, List.set_cons_zero, List.set_cons_succ]
  refine take_at (i := 10) (v := ?v737) rfl (by kernel_rfl) (by kernel_rfl) (by kernel_rfl) (fun _ _ _ h => h) (Or.inl ⟨by rfl, ?y737⟩) hHeld ?t737
  case y737 => (intro wx hSw; go_simp <;> with_reducible rfl)
  simp only [Act.put, List.setIfInBounds_toArray, List.set_cons_zero, List.set_cons_succ]
  refine take_at (i := 11) (v := ?v738) rfl (by kernel_rfl) (by kernel_rfl) (by kernel_rfl) (fun _ _ _ h => h) (Or.inl ⟨by rfl, ?y738⟩) hHeld ?t738
  case y738 => (intro wx hSw; go_simp <;> with_reducible rfl)
  simp only [Act.put, List.setIfInBounds_toArray, List.set_cons_zero, List.set_cons_succ]
  refine take_at (i := 12) (v := ?v739) rfl (by kernel_rfl) (by kernel_rfl) (by kernel_rfl) (fun _ _ _ h => h) (Or.inl ⟨by rfl, ?y739⟩) hHeld ?t739
  case y739 => (intro wx hSw; have hc1 : wx.cell? ⟨w.heap.size, 1, none⟩ = some (.int .i64 p.2.1) := hSw.2.c 1 (of_decide_eq_true rfl); go_simp <;> with_reducible rfl)
  simp only [Act.put, List.setIfInBounds_toArray, List.set_cons_zero, List.set_cons_succ]
  refine take_at (i := 14) (v := ?v740) rfl (by kernel_rfl) (by kernel_rfl) (by kernel_rfl) (fun _ _ _ h => h) (Or.inl ⟨by rfl, ?y740⟩) hHeld ?t740
  case y740 => (intro wx hSw; go_simp <;> with_reducible rfl)
  simp only [Act.put, List.setIfInBounds_toArray, List.set_cons_zero, List.set_cons_succ]
  refine take_at (i := 15) (v := ?v741) rfl (by kernel_rfl) (by kernel_rfl) (by kernel_rfl) (fun _ _ _ h => h) (Or.inl ⟨by rfl, ?y741⟩) hHeld ?t741
  case y741 => (intro wx hSw; go_simp <;> with_reducible rfl)
  simp only [Act.put, List.setIfInBounds_toArray, List.set_cons_zero, List.set_cons_succ]
  refine take_at (i := 16) (v := ?v742) rfl (by kernel_rfl) (by kernel_rfl) (by kernel_rfl) (fun _ _ _ h => h) (Or.inl ⟨by rfl, ?y742⟩) hHeld ?t742
  case y742 => (intro wx hSw; go_simp <;> with_reducible rfl)
  simp only [Act.put, List.setIfInBounds_toArray, List.set_cons_zero, List.set_cons_succ]
  refine take_at (i := 17) (v := ?v743) rfl (by kernel_rfl) (by kernel_rfl) (by kernel_rfl) (fun _ _ _ h => h) (Or.inl ⟨by rfl, ?y743⟩) hHeld ?t743
  case y743 => (intro wx hSw; go_simp <;> with_reducible rfl)
  simp only [Act.put, List.setIfInBounds_toArray, List.set_cons_zero, List.set_cons_succ]
  refine take_at (i := 18) (v := ?v744) rfl (by kernel_rfl) (by kernel_rfl) (by kernel_rfl) (fun _ _ _ h => h) (Or.inl ⟨by rfl, ?y744⟩) hHeld ?t744
  case y744 => (intro wx hSw; have hc3 : wx.cell? ⟨w.heap.size + 1, 3, none⟩ = some (.int .i64 q.2.2.2.1) := hSw.1.c 3 (of_decide_eq_true rfl); go_simp <;> with_reducible rfl)
  simp only [Act.put, List.setIfInBounds_toArray, List.set_cons_zero, List.set_cons_succ]
  refine take_at (i := 19) (v := ?v745) rfl (by kernel_rfl) (by kernel_rfl) (by kernel_rfl) (fun _ _ _ h => h) (Or.inl ⟨by rfl, ?y745⟩) hHeld ?t745
  case y745 => (intro wx hSw; go_simp <;> with_reducible rfl)
  simp only [Act.put, List.setIfInBounds_toArray, List.set_cons_zero, List.set_cons_succ]
  refine take_at (i := 20) (v := ?v746) rfl (by kernel_rfl) (by kernel_rfl) (by kernel_rfl) (fun _ _ _ h => h) (Or.inl ⟨by rfl, ?y746⟩) hHeld ?t746
  case y746 => (intro wx hSw; go_simp <;> with_reducible rfl)
  simp only [Act.put, List.setIfInBounds_toArray, List.set_cons_zero, List.set_cons_succ]
  refine take_at (i := 21) (v := ?v747) rfl (by kernel_rfl) (by kernel_rfl) (by kernel_rfl) (fun _ _ _ h => h) (Or.inl ⟨by rfl, ?y747⟩) hHeld ?t747
  case y747 => (intro wx hSw; go_simp <;> with_reducible rfl)
  simp only [Act.put, List.setIfInBounds_toArray, List.set_cons_zero, List.set_cons_succ]
  refine take_at (i := 22) (v := ?v748) rfl (by kernel_rfl) (by kernel_rfl) (by kernel_rfl) (fun _ _ _ h => h) (Or.inl ⟨by rfl, ?y748⟩) hHeld ?t748
  case y748 => (intro wx hSw; have hc4 : wx.cell? ⟨w.heap.size, 4, none⟩ = some (.int .i64 p.2.2.2.2.1) := hSw.2.c 4 (of_decide_eq_true rfl); go_simp <;> with_reducible rfl)
  simp only [Act.put, List.setIfInBounds_toArray, List.set_cons_zero, List.set_cons_succ]
  refine take_at (i := 25) (v := ?v749) rfl (by kernel_rfl) (by kernel_rfl) (by kernel_rfl) (fun _ _ _ h => h) (Or.inl ⟨by rfl, ?y749⟩) hHeld ?t749
  case y749 => (intro wx hSw; go_simp <;> with_reducible rfl)
  simp only [Act.put, List.setIfInBounds_toArray, List.set_cons_zero, List.set_cons_succ]
  refine take_at (i := 26) (v := ?v750) rfl (by kernel_rfl) (by kernel_rfl) (by kernel_rfl) (fun _ _ _ h => h) (Or.inl ⟨by rfl, ?y750⟩) hHeld ?t750
  case y750 => (intro wx hSw; go_simp <;> with_reducible rfl)
  simp only [Act.put, List.setIfInBounds_toArray, List.set_cons_zero, List.set_cons_succ]
  refine take_at (i := 27) (v := ?v751) rfl (by kernel_rfl) (by kernel_rfl) (by kernel_rfl) (fun _ _ _ h => h) (Or.inl ⟨by rfl, ?y751⟩) hHeld ?t751
  case y751 => (intro wx hSw; go_simp <;> with_reducible rfl)
  simp only [Act.put, List.setIfInBounds_toArray, List.set_cons_zero, List.set_cons_succ]
  refine take_at (i := 28) (v := ?v752) rfl (by kernel_rfl) (by kernel_rfl) (by kernel_rfl) (fun _ _ _ h => h) (Or.inl ⟨by rfl, ?y752⟩) hHeld ?t752
  case y752 => (intro wx hSw; go_simp <;> with_reducible rfl)
  simp only [Act.put, List.setIfInBounds_toArray, List.set_cons_zero, List.set_cons_succ]
  refine take_at (i := 29) (v := ?v753) rfl (by kernel_rfl) (by kernel_rfl) (by kernel_rfl) (fun _ _ _ h => h) (Or.inl ⟨by rfl, ?y753⟩) hHeld ?t753
  case y753 => (intro wx hSw; have hc6 : wx.cell? ⟨w.heap.size + 1, 6, none⟩ = some (.int .i64 q.2.2.2.2.2.2.1) := hSw.1.c 6 (of_decide_eq_true rfl); go_simp <;> with_reducible rfl)
  simp only [Act.put, List.setIfInBounds_toArray, List.set_cons_zero, List.set_cons_succ]
  refine take_at (i := 30) (v := ?v754) rfl (by kernel_rfl) (by kernel_rfl) (by kernel_rfl) (fun _ _ _ h => h) (Or.inl ⟨by rfl, ?y754⟩) hHeld ?t754
  case y754 => (intro wx hSw; go_simp <;> with_reducible rfl)
  simp only [Act.put, List.setIfInBounds_toArray, List.set_cons_zero, List.set_cons_succ]
  refine take_at (i := 31) (v := ?v755) rfl (by kernel_rfl) (by kernel_rfl) (by kernel_rfl) (fun _ _ _ h => h) (Or.inl ⟨by rfl, ?y755⟩) hHeld ?t755
  case y755 => (intro wx hSw; go_simp <;> with_reducible rfl)
  simp only [Act.put, List.setIfInBounds_toArray, List.set_cons_zero, List.set_cons_succ]
  refine take_at (i := 32) (v := ?v756) rfl (by kernel_rfl) (by kernel_rfl) (by kernel_rfl) (fun _ _ _ h => h) (Or.inl ⟨by rfl, ?y756⟩) hHeld ?t756
  case y756 => (intro wx hSw; go_simp <;> with_reducible rfl)
  simp only [Act.put, List.setIfInBounds_toArray, List.set_cons_zero, List.set_cons_succ]
  refine take_at (i := 33) (v := ?v757) rfl (by kernel_rfl) (by kernel_rfl) (by kernel_rfl) (fun _ _ _ h => h) (Or.inl ⟨by rfl, ?y757⟩) hHeld ?t757
  case y757 => (intro wx hSw; have hc7 : wx.cell? ⟨w.heap.size, 7, none⟩ = some (.int .i64 p.2.2.2.2.2.2.2.1) := hSw.2.c 7 (of_decide_eq_true rfl); go_simp <;> with_reducible rfl)
  simp only [Act.put, List.setIfInBounds_toArray, List.set_cons_zero, List.set_cons_succ]
  refine take_at (i := 36) (v := ?v758) rfl (by kernel_rfl) (by kernel_rfl) (by kernel_rfl) (fun _ _ _ h => h) (Or.inl ⟨by rfl, ?y758⟩) hHeld ?t758
  case y758 => (intro wx hSw; go_simp <;> with_reducible rfl)
  simp only [Act.put, List.setIfInBounds_toArray, List.set_cons_zero, List.set_cons_succ]
  refine call_at (i := 13) (by kernel_rfl) rfl (fun K hK => ?_)
  go_simp
  refine (Mul_any b r5.2 q.1 p.2.1 _ BF_6.drew).mono ?_
  rintro e w7 ⟨rfl, f7, k7⟩
  generalize e7 : mulS r5.2 q.1 p.2.1 = r7 at f7 ⊢
  have E7 : Hid _ := e7
  clear e7
  have K7 : Kept b w w7 := Kept.trans K6.drew k7
  have B0_7 : Arr w.heap.size [.int .i64 p.1, .int .i64 p.2.1, .int .i64 p.2.2.1, .int .i64 p.2.2.2.1, .int .i64 p.2.2.2.2.1, .int .i64 p.2.2.2.2.2.1, .int .i64 p.2.2.2.2.2.2.1, .int .i64 p.2.2.2.2.2.2.2.1, .int .i64 p.2.2.2.2.2.2.2.2] w7 := B0_6.drew.kept k7 (by omega)
  have B1_7 : Arr (w.heap.size + 1) [.int .i64 q.1, .int .i64 q.2.1, .int .i64 q.2.2.1, .int .i64 q.2.2.2.1, .int .i64 q.2.2.2.2.1, .int .i64 q.2.2.2.2.2.1, .int .i64 q.2.2.2.2.2.2.1, .int .i64 q.2.2.2.2.2.2.2.1, .int .i64 q.2.2.2.2.2.2.2.2] w7 := B1_6.drew.kept k7 (by omega)
  have B2_7 : Arr (w.heap.size + 1 + 1) [.int .i64 r5.1, .int .i64 0, .int .i64 0, .int .i64 0, .int .i64 0, .int .i64 0, .int .i64 0, .int .i64 0, .int .i64 0] w7 := B2_6.drew.kept k7 (by omega)
  have z7 := B2_7.lies
  clear hHeld
  refine hK.out _ _ ⟨B1_7, B0_7⟩ (fun hHeld => ?_)
  clear hK K K6 BF_6 B0_6 B1_6 B2_6 k7
  refine call_at (i := 23) (by kernel_rfl) rfl (fun K hK => ?_)
  go_simp
  refine (Mul_any b r7.2 q.2.2.2.1 p.2.2.2.2.1 _ f7).mono ?_
  rintro e w8 ⟨rfl, f8, k8⟩
  generalize e8 : mulS r7.2 q.2.2.2.1 p.2.2.2.2.1 = r8 at f8 ⊢
  have E8 : Hid _ := e8
  clear e8
  have K8 : Kept b w w8 := Kept.trans K7 k8
  have B0_8 : Arr w.heap.size [.int .i64 p.1, .int .i64 p.2.1, .int .i64 p.2.2.1, .int .i64 p.2.2.2.1, .int .i64 p.2.2.2.2.1, .int .i64 p.2.2.2.2.2.1, .int .i64 p.2.2.2.2.2.2.1, .int .i64 p.2.2.2.2.2.2.2.1, .int .i64 p.2.2.2.2.2.2.2.2] w8 := B0_7.kept k8 (by omega)
  have B1_8 : Arr (w.heap.size + 1) [.int .i64 q.1, .int .i64 q.2.1, .int .i64 q.2.2.1, .int .i64 q.2.2.2.1, .int .i64 q.2.2.2.2.1, .int .i64 q.2.2.2.2.2.1, .int .i64 q.2.2.2.2.2.2.1, .int .i64 q.2.2.2.2.2.2.2.1, .int .i64 q.2.2.2.2.2.2.2.2] w8 := B1_7.kept k8 (by omega)
  have B2_8 : Arr (w.heap.size + 1 + 1) [.int .i64 r5.1, .int .i64 0, .int .i64 0, .int .i64 0, .int .i64 0, .int .i64 0, .int .i64 0, .int .i64 0, .int .i64 0] w8 := B2_7.kept k8 (by omega)
  have z8 := B2_8.lies
  clear hHeld
  refine hK.out _ _ ⟨B1_8, B0_8⟩ (fun hHeld => ?_)
  clear hK K K7 f7 B0_7 B1_7 B2_7 k8
  refine call_at (i := 24) (by kernel_rfl) rfl (fun K hK => ?_)
  go_simp
  refine (Add_any b r8.2 r7.1 r8.1 _ f8).mono ?_
  rintro e w9 ⟨rfl, f9, k9⟩
  generalize e9 : addS r8.2 r7.1 r8.1 = r9 at f9 ⊢
  have E9 : Hid _ := e9
  clear e9
  have K9 : Kept b w w9 := Kept.trans K8 k9
  have B0_9 : Arr w.heap.size [.int .i64 p.1, .int .i64 p.2.1, .int .i64 p.2.2.1, .int .i64 p.2.2.2.1, .int .i64 p.2.2.2.2.1, .int .i64 p.2.2.2.2.2.1, .int .i64 p.2.2.2.2.2.2.1, .int .i64 p.2.2.2.2.2.2.2.1, .int .i64 p.2.2.2.2.2.2.2.2] w9 := B0_8.kept k9 (by omega)
  have B1_9 : Arr (w.heap.size + 1) [.int .i64 q.1, .int .i64 q.2.1, .int .i64 q.2.2.1, .int .i64 q.2.2.2.1, .int .i64 q.2.2.2.2.1, .int .i64 q.2.2.2.2.2.1, .int .i64 q.2.2.2.2.2.2.1, .int .i64 q.2.2.2.2.2.2.2.1, .int .i64 q.2.2.2.2.2.2.2.2] w9 := B1_8.kept k9 (by omega)
  have B2_9 : Arr (w.heap.size + 1 + 1) [.int .i64 r5.1, .int .i64 0, .int .i64 0, .int .i64 0, .int .i64 0, .int .i64 0, .int .i64 0, .int .i64 0, .int .i64 0] w9 := B2_8.kept k9 (by omega)
  have z9 := B2_9.lies
  clear hHeld
  refine hK.out _ _ ⟨B1_9, B0_9⟩ (fun hHeld => ?_)
  clear hK K K8 f8 B0_8 B1_8 B2_8 k9
  refine call_at (i := 34) (by kernel_rfl) rfl (fun K hK => ?_)
  go_simp
  refine (Mul_any b r9.2 q.2.2.2.2.2.2.1 p.2.2.2.2.2.2.2.1 _ f9).mono ?_
  rintro e w10 ⟨rfl, f10, k10⟩
  generalize e10 : mulS r9.2 q.2.2.2.2.2.2.1 p.2.2.2.2.2.2.2.1 = r10 at f10 ⊢
  have E10 : Hid _ := e10
  clear e10
  have K10 : Kept b w w10 := Kept.trans K9 k10
  have B0_10 : Arr w.heap.size [.int .i64 p.1, .int .i64 p.2.1, .int .i64 p.2.2.1, .int .i64 p.2.2.2.1, .int .i64 p.2.2.2.2.1, .int .i64 p.2.2.2.2.2.1, .int .i64 p.2.2.2.2.2.2.1, .int .i64 p.2.2.2.2.2.2.2.1, .int .i64 p.2.2.2.2.2.2.2.2] w10 := B0_9.kept k10 (by omega)
  have B1_10 : Arr (w.heap.size + 1) [.int .i64 q.1, .int .i64 q.2.1, .int .i64 q.2.2.1, .int .i64 q.2.2.2.1, .int .i64 q.2.2.2.2.1, .int .i64 q.2.2.2.2.2.1, .int .i64 q.2.2.2.2.2.2.1, .int .i64 q.2.2.2.2.2.2.2.1, .int .i64 q.2.2.2.2.2.2.2.2] w10 := B1_9.kept k10 (by omega)
  have B2_10 : Arr (w.heap.size + 1 + 1) [.int .i64 r5.1, .int .i64 0, .int .i64 0, .int .i64 0, .int .i64 0, .int .i64 0, .int .i64 0, .int .i64 0, .int .i64 0] w10 := B2_9.kept k10 (by omega)
  have z10 := B2_10.lies
  clear hHeld
  refine hK.out _ _ ⟨B1_10, B0_10⟩ (fun hHeld => ?_)
  clear hK K K9 f9 B0_9 B1_9 B2_9 k10
  refine call_at (i := 35) (by kernel_rfl) rfl (fun K hK => ?_)
  go_simp
  refine (Add_any b r10.2 r9.1 r10.1 _ f10).mono ?_
  rintro e w11 ⟨rfl, f11, k11⟩
  generalize e11 : addS r10.2 r9.1 r10.1 = r11 at f11 ⊢
  have E11 : Hid _ := e11
  clear e11
  have K11 : Kept b w w11 := Kept.trans K10 k11
  have B0_11 : Arr w.heap.size [.int .i64 p.1, .int .i64 p.2.1, .int .i64 p.2.2.1, .int .i64 p.2.2.2.1, .int .i64 p.2.2.2.2.1, .int .i64 p.2.2.2.2.2.1, .int .i64 p.2.2.2.2.2.2.1, .int .i64 p.2.2.2.2.2.2.2.1, .int .i64 p.2.2.2.2.2.2.2.2] w11 := B0_10.kept k11 (by omega)
  have B1_11 : Arr (w.heap.size + 1) [.int .i64 q.1, .int .i64 q.2.1, .int .i64 q.2.2.1, .int .i64 q.2.2.2.1, .int .i64 q.2.2.2.2.1, .int .i64 q.2.2.2.2.2.1, .int .i64 q.2.2.2.2.2.2.1, .int .i64 q.2.2.2.2.2.2.2.1, .int .i64 q.2.2.2.2.2.2.2.2] w11 := B1_10.kept k11 (by omega)
  have B2_11 : Arr (w.heap.size + 1 + 1) [.int .i64 r5.1, .int .i64 0, .int .i64 0, .int .i64 0, .int .i64 0, .int .i64 0, .int .i64 0, .int .i64 0, .int .i64 0] w11 := B2_10.kept k11 (by omega)
  have z11 := B2_11.lies
  clear hHeld
  refine hK.out _ _ ⟨B1_11, B0_11⟩ (fun hHeld => ?_)
  clear hK K K10 f10 B0_10 B1_10 B2_10 k11
  refine take_at (i := 37) (v := ?v759) rfl (by kernel_rfl) (by kernel_rfl) (by kernel_rfl) (fun _ _ _ h => h) (Or.inl ⟨by rfl, ?y759⟩) hHeld ?t759
  case y759 => (intro wx hSw; go_simp <;> with_reducible rfl)
  simp only [Act.put, List.setIfInBounds_toArray, List.set_cons_zero, List.set_cons_succ]
  refine call_at (i := 38) (by kernel_rfl) rfl (fun K hK => ?_)
  have c7_B2_1 : w11.cell? ⟨w.heap.size + 1 + 1, 1, none⟩ = some (.int .i64 0) := B2_11.c 1 (of_decide_eq_true rfl)
  have g7_B2_1 := B2_11.f 1 (of_decide_eq_true rfl)
  go_simp
  clear hHeld
  refine hK.out _ _ ⟨(B1_11.new (w.heap.size + 1 + 1) 1 (by omega) (.int .i64 r11.1)), (B0_11.new (w.heap.size + 1 + 1) 1 (by omega) (.int .i64 r11.1))⟩ (fun hHeld => ?_)
  clear hK K c7_B2_1 g7_B2_1
  refine wpAnyH_done (by kernel_rfl) ?_ _
  clear hHeld
  have P11 : Hid (plS r5.2 q.1 p.2.1 q.2.2.2.1 p.2.2.2.2.1 q.2.2.2.2.2.2.1 p.2.2.2.2.2.2.2.1 = r11) := by show _ = _; unfold plS; simp only [E7.out, E8.out, E9.out, E10.out, E11.out]
  clear E7 E8 E9 E10 E11
  go_wp2_with fail
  refine rounds_letter (S := fun w' => Kept b w w' ∧ Fl b r11.2 w' ∧ Arr w.heap.size [.int .i64 p.1, .int .i64 p.2.1, .int .i64 p.2.2.1, .int .i64 p.2.2.2.1, .int .i64 p.2.2.2.2.1, .int .i64 p.2.2.2.2.2.1, .int .i64 p.2.2.2.2.2.2.1, .int .i64 p.2.2.2.2.2.2.2.1, .int .i64 p.2.2.2.2.2.2.2.2] w' ∧ Arr (w.heap.size + 1) [.int .i64 q.1, .int .i64 q.2.1, .int .i64 q.2.2.1, .int .i64 q.2.2.2.1, .int .i64 q.2.2.2.2.1, .int .i64 q.2.2.2.2.2.1, .int .i64 q.2.2.2.2.2.2.1, .int .i64 q.2.2.2.2.2.2.2.1, .int .i64 q.2.2.2.2.2.2.2.2] w' ∧ Arr (w.heap.size + 1 + 1) [.int .i64 r5.1, .int .i64 r11.1, .int .i64 0, .int .i64 0, .int .i64 0, .int .i64 0, .int .i64 0, .int .i64 0, .int .i64 0] w') ⟨(K11.new _ _ (by omega) _), (f11.new (w.heap.size + 1 + 1) 1 (by omega) (.int .i64 r11.1)), (B0_11.new (w.heap.size + 1 + 1) 1 (by omega) (.int .i64 r11.1)), (B1_11.new (w.heap.size + 1 + 1) 1 (by omega) (.int .i64 r11.1)), (B2_11.put 1 (of_decide_eq_true rfl) (.int .i64 r11.1) [.int .i64 r5.1, .int .i64 r11.1, .int .i64 0, .int .i64 0, .int .i64 0, .int .i64 0, .int .i64 0, .int .i64 0, .int .i64 0] rfl)⟩ ?_
  rintro w12 ⟨K12, BF_12, B0_12, B1_12, B2_12⟩
  have z12 := B2_12.lies
  clear K11 f11 B0_11 B1_11 B2_11
  rw [rounds_succ]
  go_wp2_with fail
  refine wp_region_held_drew (S := fun w' => Arr (w.heap.size + 1) [.int .i64 q.1, .int .i64 q.2.1, .int .i64 q.2.2.1, .int .i64 q.2.2.2.1, .int .i64 q.2.2.2.2.1, .int .i64 q.2.2.2.2.2.1, .int .i64 q.2.2.2.2.2.2.1, .int .i64 q.2.2.2.2.2.2.2.1, .int .i64 q.2.2.2.2.2.2.2.2] w' ∧ Arr w.heap.size [.int .i64 p.1, .int .i64 p.2.1, .int .i64 p.2.2.1, .int .i64 p.2.2.2.1, .int .i64 p.2.2.2.2.1, .int .i64 p.2.2.2.2.2.1, .int .i64 p.2.2.2.2.2.2.1, .int .i64 p.2.2.2.2.2.2.2.1, .int .i64 p.2.2.2.2.2.2.2.2] w') (by kernel_rfl) ⟨B1_12.drew, B0_12.drew⟩ (fun hHeld => ?_)
  refine take_at (i := 0) (v := ?v760) rfl (by kernel_rfl) (by kernel_rfl) (by kernel_rfl) (fun _ _ _ h => h) (Or.inl ⟨by rfl, ?y760⟩) hHeld ?t760
  case y760 => (intro wx hSw; go_simp <;> with_reducible rfl)
  simp only [Act.put, List.setIfInBounds_toArray, List.set_cons_zero, List.set_cons_succ]
  refine take_at (i := 1) (v := ?v761) rfl (by kernel_rfl) (by kernel_rfl) (by kernel_rfl) (fun _ _ _ h => h) (Or.inl ⟨by rfl, ?y761⟩) hHeld ?t761
  case y761 => (intro wx hSw; go_simp <;> with_reducible rfl)
  simp only [Act.put, List.setIfInBounds_toArray, List.set_cons_zero, List.set_cons_succ]
  refine take_at (i := 2) (v := ?v762) rfl (by kernel_rfl) (by kernel_rfl) (by kernel_rfl) (fun _ _ _ h => h) (Or.inl ⟨by rfl, ?y762⟩) hHeld ?t762
  case y762 => (intro wx hSw; go_simp <;> with_reducible rfl)
  simp only [Act.put, List.setIfInBounds_toArray, List.set_cons_zero, List.set_cons_succ]
  refine take_at (i := 3) (v := ?v763) rfl (by kernel_rfl) (by kernel_rfl) (by kernel_rfl) (fun _ _ _ h => h) (Or.inl ⟨by rfl, ?y763⟩) hHeld ?t763
  case y763 => (intro wx hSw; go_simp <;> with_reducible rfl)
  simp only [Act.put, List.setIfInBounds_toArray, List.set_cons_zero, List.set_cons_succ]
  refine take_at (i := 4) (v := ?v764) rfl (by kernel_rfl) (by kernel_rfl) (by kernel_rfl) (fun _ _ _ h => h) (Or.inl ⟨by rfl, ?y764⟩) hHeld ?t764
  case y764 => (intro wx hSw; go_simp <;> with_reducible rfl)
  simp only [Act.put, List.setIfInBounds_toArray, List.set_cons_zero, List.set_cons_succ]
  refine take_at (i := 5) (v := ?v765) rfl (by kernel_rfl) (by kernel_rfl) (by kernel_rfl) (fun _ _ _ h => h) (Or.inl ⟨by rfl, ?y765⟩) hHeld ?t765
  case y765 => (intro wx hSw; go_simp <;> with_reducible rfl)
  simp only [Act.put, List.setIfInBounds_toArray, List.set_cons_zero, List.set_cons_succ]
  refine take_at (i := 6) (v := ?v766) rfl (by kernel_rfl) (by kernel_rfl) (by kernel_rfl) (fun _ _ _ h => h) (Or.inl ⟨by rfl, ?y766⟩) hHeld ?t766
  case y766 => (intro wx hSw; go_simp <;> with_reducible rfl)
  simp only [Act.put, List.setIfInBounds_toArray, List.set_cons_zero, List.set_cons_succ]
  refine take_at (i := 7) (v := ?v767) rfl (by kernel_rfl) (by kernel_rfl) (by kernel_rfl) (fun _ _ _ h => h) (Or.inl ⟨by rfl, ?y767⟩) hHeld ?t767
  case y767 => (intro wx hSw; go_simp <;> with_reducible rfl)
  simp only [Act.put, List.setIfInBounds_toArray, List.set_cons_zero, List.set_cons_succ]
  refine take_at (i := 8) (v := ?v768) rfl (by kernel_rfl) (by kernel_rfl) (by kernel_rfl) (fun _ _ _ h => h) (Or.inl ⟨by rfl, ?y768⟩) hHeld ?t768
  case y768 => (intro wx hSw; have hc0 : wx.cell? ⟨w.heap.size + 1, 0, none⟩ = some (.int .i64 q.1) := hSw.1.c 0 (of_decide_eq_true rfl); go_simp <;> with_reducible rfl)
  simp only [Act.put, List.setIfInBounds_toArray, List.set_cons_zero, List.set_cons_succ]
  refine take_at (i := 9) (v := ?v769) rfl (by kernel_rfl) (by kernel_rfl) (by kernel_rfl) (fun _ _ _ h => h) (Or.inl ⟨by rfl, ?y769⟩) hHeld ?t769
  case y769 => (intro wx hSw; go_simp <;> with_reducible rfl)
  simp only [Act.put, List.setIfInBounds_toArray, List.set_cons_zero, List.set_cons_succ]
  refine take_at (i := 10) (v := ?v770) rfl (by kernel_rfl) (by kernel_rfl) (by kernel_rfl) (fun _ _ _ h => h) (Or.inl ⟨by rfl, ?y770⟩) hHeld ?t770
  case y770 => (intro wx hSw; go_simp <;> with_reducible rfl)
  simp only [Act.put, List.setIfInBounds_toArray, List.set_cons_zero, List.set_cons_succ]
  refine take_at (i := 11) (v := ?v771) rfl (by kernel_rfl) (by kernel_rfl) (by kernel_rfl) (fun _ _ _ h => h) (Or.inl ⟨by rfl, ?y771⟩) hHeld ?t771
  case y771 => (intro wx hSw; go_simp <;> with_reducible rfl)
  simp only [Act.put, List.setIfInBounds_toArray, List.set_cons_zero, List.set_cons_succ]
  refine take_at (i := 12) (v := ?v772) rfl (by kernel_rfl) (by kernel_rfl) (by kernel_rfl) (fun _ _ _ h => h) (Or.inl ⟨by rfl, ?y772⟩) hHeld ?t772
  case y772 => (intro wx hSw; have hc2 : wx.cell? ⟨w.heap.size, 2, none⟩ = some (.int .i64 p.2.2.1) := hSw.2.c 2 (of_decide_eq_true rfl); go_simp <;> with_reducible rfl)
  simp only [Act.put, List.setIfInBounds_toArray, List.set_cons_zero, List.set_cons_succ]
  refine take_at (i := 14) (v := ?v773) rfl (by kernel_rfl) (by kernel_rfl) (by kernel_rfl) (fun _ _ _ h => h) (Or.inl ⟨by rfl, ?y773⟩) hHeld ?t773
  case y773 => (intro wx hSw; go_simp <;> with_reducible rfl)
  simp only [Act.put, List.setIfInBounds_toArray, List.set_cons_zero, List.set_cons_succ]
  refine take_at (i := 15) (v := ?v774) rfl (by kernel_rfl) (by kernel_rfl) (by kernel_rfl) (fun _ _ _ h => h) (Or.inl ⟨by rfl, ?y774⟩) hHeld ?t774
  case y774 => (intro wx hSw; go_simp <;> with_reducible rfl)
  simp only [Act.put, List.setIfInBounds_toArray, List.set_cons_zero, List.set_cons_succ]
  refine take_at (i := 16) (v := ?v775) rfl (by kernel_rfl) (by kernel_rfl) (by kernel_rfl) (fun _ _ _ h => h) (Or.inl ⟨by rfl, ?y775⟩) hHeld ?t775
  case y775 => (intro wx hSw; go_simp <;> with_reducible rfl)
  simp only [Act.put, List.setIfInBounds_toArray, List.set_cons_zero, List.set_cons_succ]
  refine take_at (i := 17) (v := ?v776) rfl (by kernel_rfl) (by kernel_rfl) (by kernel_rfl) (fun _ _ _ h => h) (Or.inl ⟨by rfl, ?y776⟩) hHeld ?t776
  case y776 => (intro wx hSw; go_simp <;> with_reducible rfl)
  simp only [Act.put, List.setIfInBounds_toArray, List.set_cons_zero, List.set_cons_succ]
  refine take_at (i := 18) (v := ?v777) rfl (by kernel_rfl) (by kernel_rfl) (by kernel_rfl) (fun _ _ _ h => h) (Or.inl ⟨by rfl, ?y777⟩) hHeld ?t777
  case y777 => (intro wx hSw; have hc3 : wx.cell? ⟨w.heap.size + 1, 3, none⟩ = some (.int .i64 q.2.2.2.1) := hSw.1.c 3 (of_decide_eq_true rfl); go_simp <;> with_reducible rfl)
  simp only [Act.put, List.setIfInBounds_toArray, List.set_cons_zero, List.set_cons_succ]
  refine take_at (i := 19) (v := ?v778) rfl (by kernel_rfl) (by kernel_rfl) (by kernel_rfl) (fun _ _ _ h => h) (Or.inl ⟨by rfl, ?y778⟩) hHeld ?t778
  case y778 => (intro wx hSw; go_simp <;> with_reducible rfl)
  simp only [Act.put, List.setIfInBounds_toArray, List.set_cons_zero, List.set_cons_succ]
  refine take_at (i := 20) (v := ?v779) rfl (by kernel_rfl) (by kernel_rfl) (by kernel_rfl) (fun _ _ _ h => h) (Or.inl ⟨by rfl, ?y779⟩) hHeld ?t779
  case y779 => (intro wx hSw; go_simp <;> with_reducible rfl)
  simp only [Act.put, List.setIfInBounds_toArray, List.set_cons_zero, List.set_cons_succ]
  refine take_at (i := 21) (v := ?v780) rfl (by kernel_rfl) (by kernel_rfl) (by kernel_rfl) (fun _ _ _ h => h) (Or.inl ⟨by rfl, ?y780⟩) hHeld ?t780
  case y780 => (intro wx hSw; go_simp <;> with_reducible rfl)
  simp only [Act.put, List.setIfInBounds_toArray, List.set_cons_zero, List.set_cons_succ]
  refine take_at (i := 22) (v := ?v781) rfl (by kernel_rfl) (by kernel_rfl) (by kernel_rfl) (fun _ _ _ h => h) (Or.inl ⟨by rfl, ?y781⟩) hHeld ?t781
  case y781 => (intro wx hSw; have hc5 : wx.cell? ⟨w.heap.size, 5, none⟩ = some (.int .i64 p.2.2.2.2.2.1) := hSw.2.c 5 (of_decide_eq_true rfl); go_simp <;> with_reducible rfl)
  simp only [Act.put, List.setIfInBounds_toArray, List.set_cons_zero, List.set_cons_succ]
  refine take_at (i := 25) (v := ?v782) rfl (by kernel_rfl) (by kernel_rfl) (by kernel_rfl) (fun _ _ _ h => h) (Or.inl ⟨by rfl, ?y782⟩) hHeld ?t782
  case y782 => (intro wx hSw; go_simp <;> with_reducible rfl)
  simp only [Act.put, List.setIfInBounds_toArray, List.set_cons_zero, List.set_cons_succ]
  refine take_at (i := 26) (v := ?v783) rfl (by kernel_rfl) (by kernel_rfl) (by kernel_rfl) (fun _ _ _ h => h) (Or.inl ⟨by rfl, ?y783⟩) hHeld ?t783
  case y783 => (intro wx hSw; go_simp <;> with_reducible rfl)
  simp only [Act.put, List.setIfInBounds_toArray, List.set_cons_zero, List.set_cons_succ]
  refine take_at (i := 27) (v := ?v784) rfl (by kernel_rfl) (by kernel_rfl) (by kernel_rfl) (fun _ _ _ h => h) (Or.inl ⟨by rfl, ?y784⟩) hHeld ?t784
  case y784 => (intro wx hSw; go_simp <;> with_reducible rfl)
  simp only [Act.put, List.setIfInBounds_toArray, List.set_cons_zero, List.set_cons_succ]
  refine take_at (i := 28) (v := ?v785) rfl (by kernel_rfl) (by kernel_rfl) (by kernel_rfl) (fun _ _ _ h => h) (Or.inl ⟨by rfl, ?y785⟩) hHeld ?t785
  case y785 => (intro wx hSw; go_simp <;> with_reducible rfl)
  simp only [Act.put, List.setIfInBounds_toArray, List.set_cons_zero, List.set_cons_succ]
  refine take_at (i := 29) (v := ?v786) rfl (by kernel_rfl) (by kernel_rfl) (by kernel_rfl) (fun _ _ _ h => h) (Or.inl ⟨by rfl, ?y786⟩) hHeld ?t786
  case y786 => (intro wx hSw; have hc6 : wx.cell? ⟨w.heap.size + 1, 6, none⟩ = some (.int .i64 q.2.2.2.2.2.2.1) := hSw.1.c 6 (of_decide_eq_true rfl); go_simp <;> with_reducible rfl)
  simp only [Act.put, List.setIfInBounds_toArray, List.set_cons_zero, List.set_cons_succ]
  refine take_at (i := 30) (v := ?v787) rfl (by kernel_rfl) (by kernel_rfl) (by kernel_rfl) (fun _ _ _ h => h) (Or.inl ⟨by rfl, ?y787⟩) hHeld ?t787
  case y787 => (intro wx hSw; go_simp <;> with_reducible rfl)
  simp only [Act.put, List.setIfInBounds_toArray, List.set_cons_zero, List.set_cons_succ]
  refine take_at (i := 31) (v := ?v788) rfl (by kernel_rfl) (by kernel_rfl) (by kernel_rfl) (fun _ _ _ h => h) (Or.inl ⟨by rfl, ?y788⟩) hHeld ?t788
  case y788 => (intro wx hSw; go_simp <;> with_reducible rfl)
  simp only [Act.put, List.setIfInBounds_toArray, List.set_cons_zero, List.set_cons_succ]
  refine take_at (i := 32) (v := ?v789) rfl (by kernel_rfl) (by kernel_rfl) (by kernel_rfl) (fun _ _ _ h => h) (Or.inl ⟨by rfl, ?y789⟩) hHeld ?t789
  case y789 => (intro wx hSw; go_simp <;> with_reducible rfl)
  simp only [Act.put, List.setIfInBounds_toArray, List.set_cons_zero, List.set_cons_succ]
  refine take_at (i := 33) (v := ?v790) rfl (by kernel_rfl) (by kernel_rfl) (by kernel_rfl) (fun _ _ _ h => h) (Or.inl ⟨by rfl, ?y790⟩) hHeld ?t790
  case y790 => (intro wx hSw; have hc8 : wx.cell? ⟨w.heap.size, 8, none⟩ = some (.int .i64 p.2.2.2.2.2.2.2.2) := hSw.2.c 8 (of_decide_eq_true rfl); go_simp <;> with_reducible rfl)
  simp only [Act.put, List.setIfInBounds_toArray, List.set_cons_zero, List.set_cons_succ]
  refine take_at (i := 36) (v := ?v791) rfl (by kernel_rfl) (by kernel_rfl) (by kernel_rfl) (fun _ _ _ h => h) (Or.inl ⟨by rfl, ?y791⟩) hHeld ?t791
  case y791 => (intro wx hSw; go_simp <;> with_reducible rfl)
  simp only [Act.put, List.setIfInBounds_toArray, List.set_cons_zero, List.set_cons_succ]
  refine call_at (i := 13) (by kernel_rfl) rfl (fun K hK => ?_)
  go_simp
  refine (Mul_any b r11.2 q.1 p.2.2.1 _ BF_12.drew).mono ?_
  rintro e w13 ⟨rfl, f13, k13⟩
  generalize e13 : mulS r11.2 q.1 p.2.2.1 = r13 at f13 ⊢
  have E13 : Hid _ := e13
  clear e13
  have K13 : Kept b w w13 := Kept.trans K12.drew k13
  have B0_13 : Arr w.heap.size [.int .i64 p.1, .int .i64 p.2.1, .int .i64 p.2.2.1, .int .i64 p.2.2.2.1, .int .i64 p.2.2.2.2.1, .int .i64 p.2.2.2.2.2.1, .int .i64 p.2.2.2.2.2.2.1, .int .i64 p.2.2.2.2.2.2.2.1, .int .i64 p.2.2.2.2.2.2.2.2] w13 := B0_12.drew.kept k13 (by omega)
  have B1_13 : Arr (w.heap.size + 1) [.int .i64 q.1, .int .i64 q.2.1, .int .i64 q.2.2.1, .int .i64 q.2.2.2.1, .int .i64 q.2.2.2.2.1, .int .i64 q.2.2.2.2.2.1, .int .i64 q.2.2.2.2.2.2.1, .int .i64 q.2.2.2.2.2.2.2.1, .int .i64 q.2.2.2.2.2.2.2.2] w13 := B1_12.drew.kept k13 (by omega)
  have B2_13 : Arr (w.heap.size + 1 + 1) [.int .i64 r5.1, .int .i64 r11.1, .int .i64 0, .int .i64 0, .int .i64 0, .int .i64 0, .int .i64 0, .int .i64 0, .int .i64 0] w13 := B2_12.drew.kept k13 (by omega)
  have z13 := B2_13.lies
  clear hHeld
  refine hK.out _ _ ⟨B1_13, B0_13⟩ (fun hHeld => ?_)
  clear hK K K12 BF_12 B0_12 B1_12 B2_12 k13
  refine call_at (i := 23) (by kernel_rfl) rfl (fun K hK => ?_)
  go_simp
  refine (Mul_any b r13.2 q.2.2.2.1 p.2.2.2.2.2.1 _ f13).mono ?_
  rintro e w14 ⟨rfl, f14, k14⟩
  generalize e14 : mulS r13.2 q.2.2.2.1 p.2.2.2.2.2.1 = r14 at f14 ⊢
  have E14 : Hid _ := e14
  clear e14
  have K14 : Kept b w w14 := Kept.trans K13 k14
  have B0_14 : Arr w.heap.size [.int .i64 p.1, .int .i64 p.2.1, .int .i64 p.2.2.1, .int .i64 p.2.2.2.1, .int .i64 p.2.2.2.2.1, .int .i64 p.2.2.2.2.2.1, .int .i64 p.2.2.2.2.2.2.1, .int .i64 p.2.2.2.2.2.2.2.1, .int .i64 p.2.2.2.2.2.2.2.2] w14 := B0_13.kept k14 (by omega)
  have B1_14 : Arr (w.heap.size + 1) [.int .i64 q.1, .int .i64 q.2.1, .int .i64 q.2.2.1, .int .i64 q.2.2.2.1, .int .i64 q.2.2.2.2.1, .int .i64 q.2.2.2.2.2.1, .int .i64 q.2.2.2.2.2.2.1, .int .i64 q.2.2.2.2.2.2.2.1, .int .i64 q.2.2.2.2.2.2.2.2] w14 := B1_13.kept k14 (by omega)
  have B2_14 : Arr (w.heap.size + 1 + 1) [.int .i64 r5.1, .int .i64 r11.1, .int .i64 0, .int .i64 0, .int .i64 0, .int .i64 0, .int .i64 0, .int .i64 0, .int .i64 0] w14 := B2_13.kept k14 (by omega)
  have z14 := B2_14.lies
  clear hHeld
  refine hK.out _ _ ⟨B1_14, B0_14⟩ (fun hHeld => ?_)
  clear hK K K13 f13 B0_13 B1_13 B2_13 k14
  refine call_at (i := 24) (by kernel_rfl) rfl (fun K hK => ?_)
  go_simp
  refine (Add_any b r14.2 r13.1 r14.1 _ f14).mono ?_
  rintro e w15 ⟨rfl, f15, k15⟩
  generalize e15 : addS r14.2 r13.1 r14.1 = r15 at f15 ⊢
  have E15 : Hid _ := e15
  clear e15
  have K15 : Kept b w w15 := Kept.trans K14 k15
  have B0_15 : Arr w.heap.size [.int .i64 p.1, .int .i64 p.2.1, .int .i64 p.2.2.1, .int .i64 p.2.2.2.1, .int .i64 p.2.2.2.2.1, .int .i64 p.2.2.2.2.2.1, .int .i64 p.2.2.2.2.2.2.1, .int .i64 p.2.2.2.2.2.2.2.1, .int .i64 p.2.2.2.2.2.2.2.2] w15 := B0_14.kept k15 (by omega)
  have B1_15 : Arr (w.heap.size + 1) [.int .i64 q.1, .int .i64 q.2.1, .int .i64 q.2.2.1, .int .i64 q.2.2.2.1, .int .i64 q.2.2.2.2.1, .int .i64 q.2.2.2.2.2.1, .int .i64 q.2.2.2.2.2.2.1, .int .i64 q.2.2.2.2.2.2.2.1, .int .i64 q.2.2.2.2.2.2.2.2] w15 := B1_14.kept k15 (by omega)
  have B2_15 : Arr (w.heap.size + 1 + 1) [.int .i64 r5.1, .int .i64 r11.1, .int .i64 0, .int .i64 0, .int .i64 0, .int .i64 0, .int .i64 0, .int .i64 0, .int .i64 0] w15 := B2_14.kept k15 (by omega)
  have z15 := B2_15.lies
  clear hHeld
  refine hK.out _ _ ⟨B1_15, B0_15⟩ (fun hHeld => ?_)
  clear hK K K14 f14 B0_14 B1_14 B2_14 k15
  refine call_at (i := 34) (by kernel_rfl) rfl (fun K hK => ?_)
  go_simp
  refine (Mul_any b r15.2 q.2.2.2.2.2.2.1 p.2.2.2.2.2.2.2.2 _ f15).mono ?_
  rintro e w16 ⟨rfl, f16, k16⟩
  generalize e16 : mulS r15.2 q.2.2.2.2.2.2.1 p.2.2.2.2.2.2.2.2 = r16 at f16 ⊢
  have E16 : Hid _ := e16
  clear e16
  have K16 : Kept b w w16 := Kept.trans K15 k16
  have B0_16 : Arr w.heap.size [.int .i64 p.1, .int .i64 p.2.1, .int .i64 p.2.2.1, .int .i64 p.2.2.2.1, .int .i64 p.2.2.2.2.1, .int .i64 p.2.2.2.2.2.1, .int .i64 p.2.2.2.2.2.2.1, .int .i64 p.2.2.2.2.2.2.2.1, .int .i64 p.2.2.2.2.2.2.2.2] w16 := B0_15.kept k16 (by omega)
  have B1_16 : Arr (w.heap.size + 1) [.int .i64 q.1, .int .i64 q.2.1, .int .i64 q.2.2.1, .int .i64 q.2.2.2.1, .int .i64 q.2.2.2.2.1, .int .i64 q.2.2.2.2.2.1, .int .i64 q.2.2.2.2.2.2.1, .int .i64 q.2.2.2.2.2.2.2.1, .int .i64 q.2.2.2.2.2.2.2.2] w16 := B1_15.kept k16 (by omega)
  have B2_16 : Arr (w.heap.size + 1 + 1) [.int .i64 r5.1, .int .i64 r11.1, .int .i64 0, .int .i64 0, .int .i64 0, .int .i64 0, .int .i64 0, .int .i64 0, .int .i64 0] w16 := B2_15.kept k16 (by omega)
  have z16 := B2_16.lies
  clear hHeld
  refine hK.out _ _ ⟨B1_16, B0_16⟩ (fun hHeld => ?_)
  clear hK K K15 f15 B0_15 B1_15 B2_15 k16
  refine call_at (i := 35) (by kernel_rfl) rfl (fun K hK => ?_)
  go_simp
  refine (Add_any b r16.2 r15.1 r16.1 _ f16).mono ?_
  rintro e w17 ⟨rfl, f17, k17⟩
  generalize e17 : addS r16.2 r15.1 r16.1 = r17 at f17 ⊢
  have E17 : Hid _ := e17
  clear e17
  have K17 : Kept b w w17 := Kept.trans K16 k17
  have B0_17 : Arr w.heap.size [.int .i64 p.1, .int .i64 p.2.1, .int .i64 p.2.2.1, .int .i64 p.2.2.2.1, .int .i64 p.2.2.2.2.1, .int .i64 p.2.2.2.2.2.1, .int .i64 p.2.2.2.2.2.2.1, .int .i64 p.2.2.2.2.2.2.2.1, .int .i64 p.2.2.2.2.2.2.2.2] w17 := B0_16.kept k17 (by omega)
  have B1_17 : Arr (w.heap.size + 1) [.int .i64 q.1, .int .i64 q.2.1, .int .i64 q.2.2.1, .int .i64 q.2.2.2.1, .int .i64 q.2.2.2.2.1, .int .i64 q.2.2.2.2.2.1, .int .i64 q.2.2.2.2.2.2.1, .int .i64 q.2.2.2.2.2.2.2.1, .int .i64 q.2.2.2.2.2.2.2.2] w17 := B1_16.kept k17 (by omega)
  have B2_17 : Arr (w.heap.size + 1 + 1) [.int .i64 r5.1, .int .i64 r11.1, .int .i64 0, .int .i64 0, .int .i64 0, .int .i64 0, .int .i64 0, .int .i64 0, .int .i64 0] w17 := B2_16.kept k17 (by omega)
  have z17 := B2_17.lies
  clear hHeld
  refine hK.out _ _ ⟨B1_17, B0_17⟩ (fun hHeld => ?_)
  clear hK K K16 f16 B0_16 B1_16 B2_16 k17
  refine take_at (i := 37) (v := ?v792) rfl (by kernel_rfl) (by kernel_rfl) (by kernel_rfl) (fun _ _ _ h => h) (Or.inl ⟨by rfl, ?y792⟩) hHeld ?t792
  case y792 => (intro wx hSw; go_simp <;> with_reducible rfl)
  simp only [Act.put, List.setIfInBounds_toArray, List.set_cons_zero, List.set_cons_succ]
  refine call_at (i := 38) (by kernel_rfl) rfl (fun K hK => ?_)
  have c10_B2_2 : w17.cell? ⟨w.heap.size + 1 + 1, 2, none⟩ = some (.int .i64 0) := B2_17.c 2 (of_decide_eq_true rfl)
  have g10_B2_2 := B2_17.f 2 (of_decide_eq_true rfl)
  go_simp
  clear hHeld
  refine hK.out _ _ ⟨(B1_17.new (w.heap.size + 1 + 1) 2 (by omega) (.int .i64 r17.1)), (B0_17.new (w.heap.size + 1 + 1) 2 (by omega) (.int .i64 r17.1))⟩ (fun hHeld => ?_)
  clear hK K c10_B2_2 g10_B2_2
  refine wpAnyH_done (by kernel_rfl) ?_ _
  clear hHeld
  have P17 : Hid (plS r11.2 q.1 p.2.2.1 q.2.2.2.1 p.2.2.2.2.2.1 q.2.2.2.2.2.2.1 p.2.2.2.2.2.2.2.2 = r17) := by show _ = _; unfold plS; simp only [E13.out, E14.out, E15.out, E16.out, E17.out]
  clear E13 E14 E15 E16 E17
  go_wp2_with fail
  refine rounds_letter (S := fun w' => Kept b w w' ∧ Fl b r17.2 w' ∧ Arr w.heap.size [.int .i64 p.1, .int .i64 p.2.1, .int .i64 p.2.2.1, .int .i64 p.2.2.2.1, .int .i64 p.2.2.2.2.1, .int .i64 p.2.2.2.2.2.1, .int .i64 p.2.2.2.2.2.2.1, .int .i64 p.2.2.2.2.2.2.2.1, .int .i64 p.2.2.2.2.2.2.2.2] w' ∧ Arr (w.heap.size + 1) [.int .i64 q.1, .int .i64 q.2.1, .int .i64 q.2.2.1, .int .i64 q.2.2.2.1, .int .i64 q.2.2.2.2.1, .int .i64 q.2.2.2.2.2.1, .int .i64 q.2.2.2.2.2.2.1, .int .i64 q.2.2.2.2.2.2.2.1, .int .i64 q.2.2.2.2.2.2.2.2] w' ∧ Arr (w.heap.size + 1 + 1) [.int .i64 r5.1, .int .i64 r11.1, .int .i64 r17.1, .int .i64 0, .int .i64 0, .int .i64 0, .int .i64 0, .int .i64 0, .int .i64 0] w') ⟨(K17.new _ _ (by omega) _), (f17.new (w.heap.size + 1 + 1) 2 (by omega) (.int .i64 r17.1)), (B0_17.new (w.heap.size + 1 + 1) 2 (by omega) (.int .i64 r17.1)), (B1_17.new (w.heap.size + 1 + 1) 2 (by omega) (.int .i64 r17.1)), (B2_17.put 2 (of_decide_eq_true rfl) (.int .i64 r17.1) [.int .i64 r5.1, .int .i64 r11.1, .int .i64 r17.1, .int .i64 0, .int .i64 0, .int .i64 0, .int .i64 0, .int .i64 0, .int .i64 0] rfl)⟩ ?_
  rintro w18 ⟨K18, BF_18, B0_18, B1_18, B2_18⟩
  have z18 := B2_18.lies
  clear K17 f17 B0_17 B1_17 B2_17
  rw [rounds_succ]
  go_wp2_with fail
  rw [rounds_succ]
  go_wp2_with fail
  refine wp_loop_rounds 4 ?_
  rw [rounds_succ]
  go_wp2_with fail
  refine wp_region_held_drew (S := fun w' => Arr (w.heap.size + 1) [.int .i64 q.1, .int .i64 q.2.1, .int .i64 q.2.2.1, .int .i64 q.2.2.2.1, .int .i64 q.2.2.2.2.1, .int .i64 q.2.2.2.2.2.1, .int .i64 q.2.2.2.2.2.2.1, .int .i64 q.2.2.2.2.2.2.2.1, .int .i64 q.2.2.2.2.2.2.2.2] w' ∧ Arr w.heap.size [.int .i64 p.1, .int .i64 p.2.1, .int .i64 p.2.2.1, .int .i64 p.2.2.2.1, .int .i64 p.2.2.2.2.1, .int .i64 p.2.2.2.2.2.1, .int .i64 p.2.2.2.2.2.2.1, .int .i64 p.2.2.2.2.2.2.2.1, .int .i64 p.2.2.2.2.2.2.2.2] w') (by kernel_rfl) ⟨B1_18.drew, B0_18.drew⟩ (fun hHeld => ?_)
  refine take_at (i := 0) (v := ?v892) rfl (by kernel_rfl) (by kernel_rfl) (by kernel_rfl) (fun _ _ _ h => h) (Or.inl ⟨by rfl, ?y892⟩) hHeld ?t892
  case y892 => (intro wx hSw; go_simp <;> with_reducible rfl)
  simp only [Act.put, List.setIfInBounds_toArray, List.set_cons_zero, List.set_cons_succ]
  refine take_at (i := 1) (v := ?v893) rfl (by kernel_rfl) (by kernel_rfl) (by kernel_rfl) (fun _ _ _ h => h) (Or.inl ⟨by rfl, ?y893⟩) hHeld ?t893
  case y893 => (intro wx hSw; go_simp <;> with_reducible rfl)
  simp only [Act.put, List.setIfInBounds_toArray, List.set_cons_zero, List.set_cons_succ]
  refine take_at (i := 2) (v := ?v894) rfl (by kernel_rfl) (by kernel_rfl) (by kernel_rfl) (fun _ _ _ h => h) (Or.inl ⟨by rfl, ?y894⟩) hHeld ?t894
  case y894 => (intro wx hSw; go_simp <;> with_reducible rfl)
  simp only [Act.put, List.setIfInBounds_toArray, List.set_cons_zero, List.set_cons_succ]
  refine take_at (i := 3) (v := ?v895) rfl (by kernel_rfl) (by kernel_rfl) (by kernel_rfl) (fun _ _ _ h => h) (Or.inl ⟨by rfl, ?y895⟩) hHeld ?t895
  case y895 => (intro wx hSw; go_simp <;> with_reducible rfl)
  simp only [Act.put, List.setIfInBounds_toArray, List.set_cons_zero, List.set_cons_succ]
  refine take_at (i := 4) (v := ?v896) rfl (by kernel_rfl) (by kernel_rfl) (by kernel_rfl) (fun _ _ _ h => h) (Or.inl ⟨by rfl, ?y896⟩) hHeld ?t896
  case y896 => (intro wx hSw; go_simp <;> with_reducible rfl)
  simp only [Act.put, List.setIfInBounds_toArray, List.set_cons_zero, List.set_cons_succ]
  refine take_at (i := 5) (v := ?v897) rfl (by kernel_rfl) (by kernel_rfl) (by kernel_rfl) (fun _ _ _ h => h) (Or.inl ⟨by rfl, ?y897⟩) hHeld ?t897
  case y897 => (intro wx hSw; go_simp <;> with_reducible rfl)
  simp only [Act.put, List.setIfInBounds_toArray, List.set_cons_zero, List.set_cons_succ]
  refine take_at (i := 6) (v := ?v898) rfl (by kernel_rfl) (by kernel_rfl) (by kernel_rfl) (fun _ _ _ h => h) (Or.inl ⟨by rfl, ?y898⟩) hHeld ?t898
  case y898 => (intro wx hSw; go_simp <;> with_reducible rfl)
  simp only [Act.put, List.setIfInBounds_toArray, List.set_cons_zero, List.set_cons_succ]
  refine take_at (i := 7) (v := ?v899) rfl (by kernel_rfl) (by kernel_rfl) (by kernel_rfl) (fun _ _ _ h => h) (Or.inl ⟨by rfl, ?y899⟩) hHeld ?t899
  case y899 => (intro wx hSw; go_simp <;> with_reducible rfl)
  simp only [Act.put, List.setIfInBounds_toArray, List.set_cons_zero, List.set_cons_succ]
  refine take_at (i := 8) (v := ?v900) rfl (by kernel_rfl) (by kernel_rfl) (by kernel_rfl) (fun _ _ _ h => h) (Or.inl ⟨by rfl, ?y900⟩) hHeld ?t900
  case y900 => (intro wx hSw; have hc1 : wx.cell? ⟨w.heap.size + 1, 1, none⟩ = some (.int .i64 q.2.1) := hSw.1.c 1 (of_decide_eq_true rfl); go_simp <;> with_reducible rfl)
  simp only [Act.put, List.setIfInBounds_toArray, List.set_cons_zero, List.set_cons_succ]
  refine take_at (i := 9) (v := ?v901) rfl (by kernel_rfl) (by kernel_rfl) (by kernel_rfl) (fun _ _ _ h => h) (Or.inl ⟨by rfl, ?y901⟩) hHeld ?t901
  case y901 => (intro wx hSw; go_simp <;> with_reducible rfl)
  simp only [Act.put, List.setIfInBounds_toArray, List.set_cons_zero, List.set_cons_succ]
  refine take_at (i := 10) (v := ?v902) rfl (by kernel_rfl) (by kernel_rfl) (by kernel_rfl) (fun _ _ _ h => h) (Or.inl ⟨by rfl, ?y902⟩) hHeld ?t902
  case y902 => (intro wx hSw; go_simp <;> with_reducible rfl)
  simp only [Act.put, List.setIfInBounds_toArray, List.set_cons_zero, List.set_cons_succ]
  refine take_at (i := 11) (v := ?v903) rfl (by kernel_rfl) (by kernel_rfl) (by kernel_rfl) (fun _ _ _ h => h) (Or.inl ⟨by rfl, ?y903⟩) hHeld ?t903
  case y903 => (intro wx hSw; go_simp <;> with_reducible rfl)
  simp only [Act.put, List.setIfInBounds_toArray, List.set_cons_zero, List.set_cons_succ]
  refine take_at (i := 12) (v := ?v904) rfl (by kernel_rfl) (by kernel_rfl) (by kernel_rfl) (fun _ _ _ h => h) (Or.inl ⟨by rfl, ?y904⟩) hHeld ?t904
  case y904 => (intro wx hSw; have hc0 : wx.cell? ⟨w.heap.size, 0, none⟩ = some (.int .i64 p.1) := hSw.2.c 0 (of_decide_eq_true rfl); go_simp <;> with_reducible rfl)
  simp only [Act.put, List.setIfInBounds_toArray, List.set_cons_zero, List.set_cons_succ]
  refine take_at (i := 14) (v := ?v905) rfl (by kernel_rfl) (by kernel_rfl) (by kernel_rfl) (fun _ _ _ h => h) (Or.inl ⟨by rfl, ?y905⟩) hHeld ?t905
  case y905 => (intro wx hSw; go_simp <;> with_reducible rfl)
  simp only [Act.put, List.setIfInBounds_toArray, List.set_cons_zero, List.set_cons_succ]
  refine take_at (i := 15) (v := ?v906) rfl (by kernel_rfl) (by kernel_rfl) (by kernel_rfl) (fun _ _ _ h => h) (Or.inl ⟨by rfl, ?y906⟩) hHeld ?t906
  case y906 => (intro wx hSw; go_simp <;> with_reducible rfl)
  simp only [Act.put, List.setIfInBounds_toArray, List.set_cons_zero, List.set_cons_succ]
  refine take_at (i := 16) (v := ?v907) rfl (by kernel_rfl) (by kernel_rfl) (by kernel_rfl) (fun _ _ _ h => h) (Or.inl ⟨by rfl, ?y907⟩) hHeld ?t907
  case y907 => (intro wx hSw; go_simp <;> with_reducible rfl)
  simp only [Act.put, List.setIfInBounds_toArray, List.set_cons_zero, List.set_cons_succ]
  refine take_at (i := 17) (v := ?v908) rfl (by kernel_rfl) (by kernel_rfl) (by kernel_rfl) (fun _ _ _ h => h) (Or.inl ⟨by rfl, ?y908⟩) hHeld ?t908
  case y908 => (intro wx hSw; go_simp <;> with_reducible rfl)
  simp only [Act.put, List.setIfInBounds_toArray, List.set_cons_zero, List.set_cons_succ]
  refine take_at (i := 18) (v := ?v909) rfl (by kernel_rfl) (by kernel_rfl) (by kernel_rfl) (fun _ _ _ h => h) (Or.inl ⟨by rfl, ?y909⟩) hHeld ?t909
  case y909 => (intro wx hSw; have hc4 : wx.cell? ⟨w.heap.size + 1, 4, none⟩ = some (.int .i64 q.2.2.2.2.1) := hSw.1.c 4 (of_decide_eq_true rfl); go_simp <;> with_reducible rfl)
  simp only [Act.put, List.setIfInBounds_toArray, List.set_cons_zero, List.set_cons_succ]
  refine take_at (i := 19) (v := ?v910) rfl (by kernel_rfl) (by kernel_rfl) (by kernel_rfl) (fun _ _ _ h => h) (Or.inl ⟨by rfl, ?y910⟩) hHeld ?t910
  case y910 => (intro wx hSw; go_simp <;> with_reducible rfl)
  simp only [Act.put, List.setIfInBounds_toArray, List.set_cons_zero, List.set_cons_succ]
  refine take_at (i := 20) (v := ?v911) rfl (by kernel_rfl) (by kernel_rfl) (by kernel_rfl) (fun _ _ _ h => h) (Or.inl ⟨by rfl, ?y911⟩) hHeld ?t911
  case y911 => (intro wx hSw; go_simp <;> with_reducible rfl)
  simp only [Act.put, List.setIfInBounds_toArray, List.set_cons_zero, List.set_cons_succ]
  refine take_at (i := 21) (v := ?v912) rfl (by kernel_rfl) (by kernel_rfl) (by kernel_rfl) (fun _ _ _ h => h) (Or.inl ⟨by rfl, ?y912⟩) hHeld ?t912
  case y912 => (intro wx hSw; go_simp <;> with_reducible rfl)
  simp only [Act.put, List.setIfInBounds_toArray, List.set_cons_zero, List.set_cons_succ]
  refine take_at (i := 22) (v := ?v913) rfl (by kernel_rfl) (by kernel_rfl) (by kernel_rfl) (fun _ _ _ h => h) (Or.inl ⟨by rfl, ?y913⟩) hHeld ?t913
  case y913 => (intro wx hSw; have hc3 : wx.cell? ⟨w.heap.size, 3, none⟩ = some (.int .i64 p.2.2.2.1) := hSw.2.c 3 (of_decide_eq_true rfl); go_simp <;> with_reducible rfl)
  simp only [Act.put, List.setIfInBounds_toArray, List.set_cons_zero, List.set_cons_succ]
  refine take_at (i := 25) (v := ?v914) rfl (by kernel_rfl) (by kernel_rfl) (by kernel_rfl) (fun _ _ _ h => h) (Or.inl ⟨by rfl, ?y914⟩) hHeld ?t914
  case y914 => (intro wx hSw; go_simp <;> with_reducible rfl)
  simp only [Act.put, List.setIfInBounds_toArray, List.set_cons_zero, List.set_cons_succ]
  refine take_at (i := 26) (v := ?v915) rfl (by kernel_rfl) (by kernel_rfl) (by kernel_rfl) (fun _ _ _ h => h) (Or.inl ⟨by rfl, ?y915⟩) hHeld ?t915
  case y915 => (intro wx hSw; go_simp <;> with_reducible rfl)
  simp only [Act.put, List.setIfInBounds_toArray, List.set_cons_zero, List.set_cons_succ]
  refine take_at (i := 27) (v := ?v916) rfl (by kernel_rfl) (by kernel_rfl) (by kernel_rfl) (fun _ _ _ h => h) (Or.inl ⟨by rfl, ?y916⟩) hHeld ?t916
  case y916 => (intro wx hSw; go_simp <;> with_reducible rfl)
  simp only [Act.put, List.setIfInBounds_toArray, List.set_cons_zero, List.set_cons_succ]
  refine take_at (i := 28) (v := ?v917) rfl (by kernel_rfl) (by kernel_rfl) (by kernel_rfl) (fun _ _ _ h => h) (Or.inl ⟨by rfl, ?y917⟩) hHeld ?t917
  case y917 => (intro wx hSw; go_simp <;> with_reducible rfl)
  simp only [Act.put, List.setIfInBounds_toArray, List.set_cons_zero, List.set_cons_succ]
  refine take_at (i := 29) (v := ?v918) rfl (by kernel_rfl) (by kernel_rfl) (by kernel_rfl) (fun _ _ _ h => h) (Or.inl ⟨by rfl, ?y918⟩) hHeld ?t918
  case y918 => (intro wx hSw; have hc7 : wx.cell? ⟨w.heap.size + 1, 7, none⟩ = some (.int .i64 q.2.2.2.2.2.2.2.1) := hSw.1.c 7 (of_decide_eq_true rfl); go_simp <;> with_reducible rfl)
  simp only [Act.put, List.setIfInBounds_toArray, List.set_cons_zero, List.set_cons_succ]
  refine take_at (i := 30) (v := ?v919) rfl (by kernel_rfl) (by kernel_rfl) (by kernel_rfl) (fun _ _ _ h => h) (Or.inl ⟨by rfl, ?y919⟩) hHeld ?t919
  case y919 => (intro wx hSw; go_simp <;> with_reducible rfl)
  simp only [Act.put, List.setIfInBounds_toArray, List.set_cons_zero, List.set_cons_succ]
  refine take_at (i := 31) (v := ?v920) rfl (by kernel_rfl) (by kernel_rfl) (by kernel_rfl) (fun _ _ _ h => h) (Or.inl ⟨by rfl, ?y920⟩) hHeld ?t920
  case y920 => (intro wx hSw; go_simp <;> with_reducible rfl)
  simp only [Act.put, List.setIfInBounds_toArray, List.set_cons_zero, List.set_cons_succ]
  refine take_at (i := 32) (v := ?v921) rfl (by kernel_rfl) (by kernel_rfl) (by kernel_rfl) (fun _ _ _ h => h) (Or.inl ⟨by rfl, ?y921⟩) hHeld ?t921
  case y921 => (intro wx hSw; go_simp <;> with_reducible rfl)
  simp only [Act.put, List.setIfInBounds_toArray, List.set_cons_zero, List.set_cons_succ]
  refine take_at (i := 33) (v := ?v922) rfl (by kernel_rfl) (by kernel_rfl) (by kernel_rfl) (fun _ _ _ h => h) (Or.inl ⟨by rfl, ?y922⟩) hHeld ?t922
  case y922 => (intro wx hSw; have hc6 : wx.cell? ⟨w.heap.size, 6, none⟩ = some (.int .i64 p.2.2.2.2.2.2.1) := hSw.2.c 6 (of_decide_eq_true rfl); go_simp <;> with_reducible rfl)
  simp only [Act.put, List.setIfInBounds_toArray, List.set_cons_zero, List.set_cons_succ]
  refine take_at (i := 36) (v := ?v923) rfl (by kernel_rfl) (by kernel_rfl) (by kernel_rfl) (fun _ _ _ h => h) (Or.inl ⟨by rfl, ?y923⟩) hHeld ?t923
  case y923 => (intro wx hSw; go_simp <;> with_reducible rfl)
  simp only [Act.put, List.setIfInBounds_toArray, List.set_cons_zero, List.set_cons_succ]
  refine call_at (i := 13) (by kernel_rfl) rfl (fun K hK => ?_)
  go_simp
  refine (Mul_any b r17.2 q.2.1 p.1 _ BF_18.drew).mono ?_
  rintro e w19 ⟨rfl, f19, k19⟩
  generalize e19 : mulS r17.2 q.2.1 p.1 = r19 at f19 ⊢
  have E19 : Hid _ := e19
  clear e19
  have K19 : Kept b w w19 := Kept.trans K18.drew k19
  have B0_19 : Arr w.heap.size [.int .i64 p.1, .int .i64 p.2.1, .int .i64 p.2.2.1, .int .i64 p.2.2.2.1, .int .i64 p.2.2.2.2.1, .int .i64 p.2.2.2.2.2.1, .int .i64 p.2.2.2.2.2.2.1, .int .i64 p.2.2.2.2.2.2.2.1, .int .i64 p.2.2.2.2.2.2.2.2] w19 := B0_18.drew.kept k19 (by omega)
  have B1_19 : Arr (w.heap.size + 1) [.int .i64 q.1, .int .i64 q.2.1, .int .i64 q.2.2.1, .int .i64 q.2.2.2.1, .int .i64 q.2.2.2.2.1, .int .i64 q.2.2.2.2.2.1, .int .i64 q.2.2.2.2.2.2.1, .int .i64 q.2.2.2.2.2.2.2.1, .int .i64 q.2.2.2.2.2.2.2.2] w19 := B1_18.drew.kept k19 (by omega)
  have B2_19 : Arr (w.heap.size + 1 + 1) [.int .i64 r5.1, .int .i64 r11.1, .int .i64 r17.1, .int .i64 0, .int .i64 0, .int .i64 0, .int .i64 0, .int .i64 0, .int .i64 0] w19 := B2_18.drew.kept k19 (by omega)
  have z19 := B2_19.lies
  clear hHeld
  refine hK.out _ _ ⟨B1_19, B0_19⟩ (fun hHeld => ?_)
  clear hK K K18 BF_18 B0_18 B1_18 B2_18 k19
  refine call_at (i := 23) (by kernel_rfl) rfl (fun K hK => ?_)
  go_simp
  refine (Mul_any b r19.2 q.2.2.2.2.1 p.2.2.2.1 _ f19).mono ?_
  rintro e w20 ⟨rfl, f20, k20⟩
  generalize e20 : mulS r19.2 q.2.2.2.2.1 p.2.2.2.1 = r20 at f20 ⊢
  have E20 : Hid _ := e20
  clear e20
  have K20 : Kept b w w20 := Kept.trans K19 k20
  have B0_20 : Arr w.heap.size [.int .i64 p.1, .int .i64 p.2.1, .int .i64 p.2.2.1, .int .i64 p.2.2.2.1, .int .i64 p.2.2.2.2.1, .int .i64 p.2.2.2.2.2.1, .int .i64 p.2.2.2.2.2.2.1, .int .i64 p.2.2.2.2.2.2.2.1, .int .i64 p.2.2.2.2.2.2.2.2] w20 := B0_19.kept k20 (by omega)
  have B1_20 : Arr (w.heap.size + 1) [.int .i64 q.1, .int .i64 q.2.1, .int .i64 q.2.2.1, .int .i64 q.2.2.2.1, .int .i64 q.2.2.2.2.1, .int .i64 q.2.2.2.2.2.1, .int .i64 q.2.2.2.2.2.2.1, .int .i64 q.2.2.2.2.2.2.2.1, .int .i64 q.2.2.2.2.2.2.2.2] w20 := B1_19.kept k20 (by omega)
  have B2_20 : Arr (w.heap.size + 1 + 1) [.int .i64 r5.1, .int .i64 r11.1, .int .i64 r17.1, .int .i64 0, .int .i64 0, .int .i64 0, .int .i64 0, .int .i64 0, .int .i64 0] w20 := B2_19.kept k20 (by omega)
  have z20 := B2_20.lies
  clear hHeld
  refine hK.out _ _ ⟨B1_20, B0_20⟩ (fun hHeld => ?_)
  clear hK K K19 f19 B0_19 B1_19 B2_19 k20
  refine call_at (i := 24) (by kernel_rfl) rfl (fun K hK => ?_)
  go_simp
  refine (Add_any b r20.2 r19.1 r20.1 _ f20).mono ?_
  rintro e w21 ⟨rfl, f21, k21⟩
  generalize e21 : addS r20.2 r19.1 r20.1 = r21 at f21 ⊢
  have E21 : Hid _ := e21
  clear e21
  have K21 : Kept b w w21 := Kept.trans K20 k21
  have B0_21 : Arr w.heap.size [.int .i64 p.1, .int .i64 p.2.1, .int .i64 p.2.2.1, .int .i64 p.2.2.2.1, .int .i64 p.2.2.2.2.1, .int .i64 p.2.2.2.2.2.1, .int .i64 p.2.2.2.2.2.2.1, .int .i64 p.2.2.2.2.2.2.2.1, .int .i64 p.2.2.2.2.2.2.2.2] w21 := B0_20.kept k21 (by omega)
  have B1_21 : Arr (w.heap.size + 1) [.int .i64 q.1, .int .i64 q.2.1, .int .i64 q.2.2.1, .int .i64 q.2.2.2.1, .int .i64 q.2.2.2.2.1, .int .i64 q.2.2.2.2.2.1, .int .i64 q.2.2.2.2.2.2.1, .int .i64 q.2.2.2.2.2.2.2.1, .int .i64 q.2.2.2.2.2.2.2.2] w21 := B1_20.kept k21 (by omega)
  have B2_21 : Arr (w.heap.size + 1 + 1) [.int .i64 r5.1, .int .i64 r11.1, .int .i64 r17.1, .int .i64 0, .int .i64 0, .int .i64 0, .int .i64 0, .int .i64 0, .int .i64 0] w21 := B2_20.kept k21 (by omega)
  have z21 := B2_21.lies
  clear hHeld
  refine hK.out _ _ ⟨B1_21, B0_21⟩ (fun hHeld => ?_)
  clear hK K K20 f20 B0_20 B1_20 B2_20 k21
  refine call_at (i := 34) (by kernel_rfl) rfl (fun K hK => ?_)
  go_simp
  refine (Mul_any b r21.2 q.2.2.2.2.2.2.2.1 p.2.2.2.2.2.2.1 _ f21).mono ?_
  rintro e w22 ⟨rfl, f22, k22⟩
  generalize e22 : mulS r21.2 q.2.2.2.2.2.2.2.1 p.2.2.2.2.2.2.1 = r22 at f22 ⊢
  have E22 : Hid _ := e22
  clear e22
  have K22 : Kept b w w22 := Kept.trans K21 k22
  have B0_22 : Arr w.heap.size [.int .i64 p.1, .int .i64 p.2.1, .int .i64 p.2.2.1, .int .i64 p.2.2.2.1, .int .i64 p.2.2.2.2.1, .int .i64 p.2.2.2.2.2.1, .int .i64 p.2.2.2.2.2.2.1, .int .i64 p.2.2.2.2.2.2.2.1, .int .i64 p.2.2.2.2.2.2.2.2] w22 := B0_21.kept k22 (by omega)
  have B1_22 : Arr (w.heap.size + 1) [.int .i64 q.1, .int .i64 q.2.1, .int .i64 q.2.2.1, .int .i64 q.2.2.2.1, .int .i64 q.2.2.2.2.1, .int .i64 q.2.2.2.2.2.1, .int .i64 q.2.2.2.2.2.2.1, .int .i64 q.2.2.2.2.2.2.2.1, .int .i64 q.2.2.2.2.2.2.2.2] w22 := B1_21.kept k22 (by omega)
  have B2_22 : Arr (w.heap.size + 1 + 1) [.int .i64 r5.1, .int .i64 r11.1, .int .i64 r17.1, .int .i64 0, .int .i64 0, .int .i64 0, .int .i64 0, .int .i64 0, .int .i64 0] w22 := B2_21.kept k22 (by omega)
  have z22 := B2_22.lies
  clear hHeld
  refine hK.out _ _ ⟨B1_22, B0_22⟩ (fun hHeld => ?_)
  clear hK K K21 f21 B0_21 B1_21 B2_21 k22
  refine call_at (i := 35) (by kernel_rfl) rfl (fun K hK => ?_)
  go_simp
  refine (Add_any b r22.2 r21.1 r22.1 _ f22).mono ?_
  rintro e w23 ⟨rfl, f23, k23⟩
  generalize e23 : addS r22.2 r21.1 r22.1 = r23 at f23 ⊢
  have E23 : Hid _ := e23
  clear e23
  have K23 : Kept b w w23 := Kept.trans K22 k23
  have B0_23 : Arr w.heap.size [.int .i64 p.1, .int .i64 p.2.1, .int .i64 p.2.2.1, .int .i64 p.2.2.2.1, .int .i64 p.2.2.2.2.1, .int .i64 p.2.2.2.2.2.1, .int .i64 p.2.2.2.2.2.2.1, .int .i64 p.2.2.2.2.2.2.2.1, .int .i64 p.2.2.2.2.2.2.2.2] w23 := B0_22.kept k23 (by omega)
  have B1_23 : Arr (w.heap.size + 1) [.int .i64 q.1, .int .i64 q.2.1, .int .i64 q.2.2.1, .int .i64 q.2.2.2.1, .int .i64 q.2.2.2.2.1, .int .i64 q.2.2.2.2.2.1, .int .i64 q.2.2.2.2.2.2.1, .int .i64 q.2.2.2.2.2.2.2.1, .int .i64 q.2.2.2.2.2.2.2.2] w23 := B1_22.kept k23 (by omega)
  have B2_23 : Arr (w.heap.size + 1 + 1) [.int .i64 r5.1, .int .i64 r11.1, .int .i64 r17.1, .int .i64 0, .int .i64 0, .int .i64 0, .int .i64 0, .int .i64 0, .int .i64 0] w23 := B2_22.kept k23 (by omega)
  have z23 := B2_23.lies
  clear hHeld
  refine hK.out _ _ ⟨B1_23, B0_23⟩ (fun hHeld => ?_)
  clear hK K K22 f22 B0_22 B1_22 B2_22 k23
  refine take_at (i := 37) (v := ?v924) rfl (by kernel_rfl) (by kernel_rfl) (by kernel_rfl) (fun _ _ _ h => h) (Or.inl ⟨by rfl, ?y924⟩) hHeld ?t924
  case y924 => (intro wx hSw; go_simp <;> with_reducible rfl)
  simp only [Act.put, List.setIfInBounds_toArray, List.set_cons_zero, List.set_cons_succ]
  refine call_at (i := 38) (by kernel_rfl) rfl (fun K hK => ?_)
  have c15_B2_3 : w23.cell? ⟨w.heap.size + 1 + 1, 3, none⟩ = some (.int .i64 0) := B2_23.c 3 (of_decide_eq_true rfl)
  have g15_B2_3 := B2_23.f 3 (of_decide_eq_true rfl)
  go_simp
  clear hHeld
  refine hK.out _ _ ⟨(B1_23.new (w.heap.size + 1 + 1) 3 (by omega) (.int .i64 r23.1)), (B0_23.new (w.heap.size + 1 + 1) 3 (by omega) (.int .i64 r23.1))⟩ (fun hHeld => ?_)
  clear hK K c15_B2_3 g15_B2_3
  refine wpAnyH_done (by kernel_rfl) ?_ _
  clear hHeld
  have P23 : Hid (plS r17.2 q.2.1 p.1 q.2.2.2.2.1 p.2.2.2.1 q.2.2.2.2.2.2.2.1 p.2.2.2.2.2.2.1 = r23) := by show _ = _; unfold plS; simp only [E19.out, E20.out, E21.out, E22.out, E23.out]
  clear E19 E20 E21 E22 E23
  go_wp2_with fail
  refine rounds_letter (S := fun w' => Kept b w w' ∧ Fl b r23.2 w' ∧ Arr w.heap.size [.int .i64 p.1, .int .i64 p.2.1, .int .i64 p.2.2.1, .int .i64 p.2.2.2.1, .int .i64 p.2.2.2.2.1, .int .i64 p.2.2.2.2.2.1, .int .i64 p.2.2.2.2.2.2.1, .int .i64 p.2.2.2.2.2.2.2.1, .int .i64 p.2.2.2.2.2.2.2.2] w' ∧ Arr (w.heap.size + 1) [.int .i64 q.1, .int .i64 q.2.1, .int .i64 q.2.2.1, .int .i64 q.2.2.2.1, .int .i64 q.2.2.2.2.1, .int .i64 q.2.2.2.2.2.1, .int .i64 q.2.2.2.2.2.2.1, .int .i64 q.2.2.2.2.2.2.2.1, .int .i64 q.2.2.2.2.2.2.2.2] w' ∧ Arr (w.heap.size + 1 + 1) [.int .i64 r5.1, .int .i64 r11.1, .int .i64 r17.1, .int .i64 r23.1, .int .i64 0, .int .i64 0, .int .i64 0, .int .i64 0, .int .i64 0] w') ⟨(K23.new _ _ (by omega) _), (f23.new (w.heap.size + 1 + 1) 3 (by omega) (.int .i64 r23.1)), (B0_23.new (w.heap.size + 1 + 1) 3 (by omega) (.int .i64 r23.1)), (B1_23.new (w.heap.size + 1 + 1) 3 (by omega) (.int .i64 r23.1)), (B2_23.put 3 (of_decide_eq_true rfl) (.int .i64 r23.1) [.int .i64 r5.1, .int .i64 r11.1, .int .i64 r17.1, .int .i64 r23.1, .int .i64 0, .int .i64 0, .int .i64 0, .int .i64 0, .int .i64 0] rfl)⟩ ?_
  rintro w24 ⟨K24, BF_24, B0_24, B1_24, B2_24⟩
  have z24 := B2_24.lies
  clear K23 f23 B0_23 B1_23 B2_23
  rw [rounds_succ]
  go_wp2_with fail
  refine wp_region_held_drew (S := fun w' => Arr (w.heap.size + 1) [.int .i64 q.1, .int .i64 q.2.1, .int .i64 q.2.2.1, .int .i64 q.2.2.2.1, .int .i64 q.2.2.2.2.1, .int .i64 q.2.2.2.2.2.1, .int .i64 q.2.2.2.2.2.2.1, .int .i64 q.2.2.2.2.2.2.2.1, .int .i64 q.2.2.2.2.2.2.2.2] w' ∧ Arr w.heap.size [.int .i64 p.1, .int .i64 p.2.1, .int .i64 p.2.2.1, .int .i64 p.2.2.2.1, .int .i64 p.2.2.2.2.1, .int .i64 p.2.2.2.2.2.1, .int .i64 p.2.2.2.2.2.2.1, .int .i64 p.2.2.2.2.2.2.2.1, .int .i64 p.2.2.2.2.2.2.2.2] w') (by kernel_rfl) ⟨B1_24.drew, B0_24.drew⟩ (fun hHeld => ?_)
  refine take_at (i := 0) (v := ?v925) rfl (by kernel_rfl) (by kernel_rfl) (by kernel_rfl) (fun _ _ _ h => h) (Or.inl ⟨by rfl, ?y925⟩) hHeld ?t925
  case y925 => (intro wx hSw; go_simp <;> with_reducible rfl)
  simp only [Act.put, List.setIfInBounds_toArray, List.set_cons_zero, List.set_cons_succ]
  refine take_at (i := 1) (v := ?v926) rfl (by kernel_rfl) (by kernel_rfl) (by kernel_rfl) (fun _ _ _ h => h) (Or.inl ⟨by rfl, ?y926⟩) hHeld ?t926
  case y926 => (intro wx hSw; go_simp <;> with_reducible rfl)
  simp only [Act.put, List.setIfInBounds_toArray, List.set_cons_zero, List.set_cons_succ]
  refine take_at (i := 2) (v := ?v927) rfl (by kernel_rfl) (by kernel_rfl) (by kernel_rfl) (fun _ _ _ h => h) (Or.inl ⟨by rfl, ?y927⟩) hHeld ?t927
  case y927 => (intro wx hSw; go_simp <;> with_reducible rfl)
  simp only [Act.put, List.setIfInBounds_toArray, List.set_cons_zero, List.set_cons_succ]
  refine take_at (i := 3) (v := ?v928) rfl (by kernel_rfl) (by kernel_rfl) (by kernel_rfl) (fun _ _ _ h => h) (Or.inl ⟨by rfl, ?y928⟩) hHeld ?t928
  case y928 => (intro wx hSw; go_simp <;> with_reducible rfl)
  simp only [Act.put, List.setIfInBounds_toArray, List.set_cons_zero, List.set_cons_succ]
  refine take_at (i := 4) (v := ?v929) rfl (by kernel_rfl) (by kernel_rfl) (by kernel_rfl) (fun _ _ _ h => h) (Or.inl ⟨by rfl, ?y929⟩) hHeld ?t929
  case y929 => (intro wx hSw; go_simp <;> with_reducible rfl)
  simp only [Act.put, List.setIfInBounds_toArray, List.set_cons_zero, List.set_cons_succ]
  refine take_at (i := 5) (v := ?v930) rfl (by kernel_rfl) (by kernel_rfl) (by kernel_rfl) (fun _ _ _ h => h) (Or.inl ⟨by rfl, ?y930⟩) hHeld ?t930
  case y930 => (intro wx hSw; go_simp <;> with_reducible rfl)
  simp only [Act.put, List.setIfInBounds_toArray, List.set_cons_zero, List.set_cons_succ]
  refine take_at (i := 6) (v := ?v931) rfl (by kernel_rfl) (by kernel_rfl) (by kernel_rfl) (fun _ _ _ h => h) (Or.inl ⟨by rfl, ?y931⟩) hHeld ?t931
  case y931 => (intro wx hSw; go_simp <;> with_reducible rfl)
  simp only [Act.put, List.setIfInBounds_toArray, List.set_cons_zero, List.set_cons_succ]
  refine take_at (i := 7) (v := ?v932) rfl (by kernel_rfl) (by kernel_rfl) (by kernel_rfl) (fun _ _ _ h => h) (Or.inl ⟨by rfl, ?y932⟩) hHeld ?t932
  case y932 => (intro wx hSw; go_simp <;> with_reducible rfl)
  simp only [Act.put, List.setIfInBounds_toArray, List.set_cons_zero, List.set_cons_succ]
  refine take_at (i := 8) (v := ?v933) rfl (by kernel_rfl) (by kernel_rfl) (by kernel_rfl) (fun _ _ _ h => h) (Or.inl ⟨by rfl, ?y933⟩) hHeld ?t933
  case y933 => (intro wx hSw; have hc1 : wx.cell? ⟨w.heap.size + 1, 1, none⟩ = some (.int .i64 q.2.1) := hSw.1.c 1 (of_decide_eq_true rfl); go_simp <;> with_reducible rfl)
  simp only [Act.put, List.setIfInBounds_toArray, List.set_cons_zero, List.set_cons_succ]
  refine take_at (i := 9) (v := ?v934) rfl (by kernel_rfl) (by kernel_rfl) (by kernel_rfl) (fun _ _ _ h => h) (Or.inl ⟨by rfl, ?y934⟩) hHeld ?t934
  case y934 => (intro wx hSw; go_simp <;> with_reducible rfl)
  simp only [Act.put, List.setIfInBounds_toArray, List.set_cons_zero, List.set_cons_succ]
  refine take_at (i := 10) (v := ?v935) rfl (by kernel_rfl) (by kernel_rfl) (by kernel_rfl) (fun _ _ _ h => h) (Or.inl ⟨by rfl, ?y935⟩) hHeld ?t935
  case y935 => (intro wx hSw; go_simp <;> with_reducible rfl)
  simp only [Act.put, List.setIfInBounds_toArray, List.set_cons_zero, List.set_cons_succ]
  refine take_at (i := 11) (v := ?v936) rfl (by kernel_rfl) (by kernel_rfl) (by kernel_rfl) (fun _ _ _ h => h) (Or.inl ⟨by rfl, ?y936⟩) hHeld ?t936
  case y936 => (intro wx hSw; go_simp <;> with_reducible rfl)
  simp only [Act.put, List.setIfInBounds_toArray, List.set_cons_zero, List.set_cons_succ]
  refine take_at (i := 12) (v := ?v937) rfl (by kernel_rfl) (by kernel_rfl) (by kernel_rfl) (fun _ _ _ h => h) (Or.inl ⟨by rfl, ?y937⟩) hHeld ?t937
  case y937 => (intro wx hSw; have hc1 : wx.cell? ⟨w.heap.size, 1, none⟩ = some (.int .i64 p.2.1) := hSw.2.c 1 (of_decide_eq_true rfl); go_simp <;> with_reducible rfl)
  simp only [Act.put, List.setIfInBounds_toArray, List.set_cons_zero, List.set_cons_succ]
  refine take_at (i := 14) (v := ?v938) rfl (by kernel_rfl) (by kernel_rfl) (by kernel_rfl) (fun _ _ _ h => h) (Or.inl ⟨by rfl, ?y938⟩) hHeld ?t938
  case y938 => (intro wx hSw; go_simp <;> with_reducible rfl)
  simp only [Act.put, List.setIfInBounds_toArray, List.set_cons_zero, List.set_cons_succ]
  refine take_at (i := 15) (v := ?v939) rfl (by kernel_rfl) (by kernel_rfl) (by kernel_rfl) (fun _ _ _ h => h) (Or.inl ⟨by rfl, ?y939⟩) hHeld ?t939
  case y939 => (intro wx hSw; go_simp <;> with_reducible rfl)
  simp only [Act.put, List.setIfInBounds_toArray, List.set_cons_zero, List.set_cons_succ]
  refine take_at (i := 16) (v := ?v940) rfl (by kernel_rfl) (by kernel_rfl) (by kernel_rfl) (fun _ _ _ h => h) (Or.inl ⟨by rfl, ?y940⟩) hHeld ?t940
  case y940 => (intro wx hSw; go_simp <;> with_reducible rfl)
  simp only [Act.put, List.setIfInBounds_toArray, List.set_cons_zero, List.set_cons_succ]
  refine take_at (i := 17) (v := ?v941) rfl (by kernel_rfl) (by kernel_rfl) (by kernel_rfl) (fun _ _ _ h => h) (Or.inl ⟨by rfl, ?y941⟩) hHeld ?t941
  case y941 => (intro wx hSw; go_simp <;> with_reducible rfl)
  simp only [Act.put, List.setIfInBounds_toArray, List.set_cons_zero, List.set_cons_succ]
  refine take_at (i := 18) (v := ?v942) rfl (by kernel_rfl) (by kernel_rfl) (by kernel_rfl) (fun _ _ _ h => h) (Or.inl ⟨by rfl, ?y942⟩) hHeld ?t942
  case y942 => (intro wx hSw; have hc4 : wx.cell? ⟨w.heap.size + 1, 4, none⟩ = some (.int .i64 q.2.2.2.2.1) := hSw.1.c 4 (of_decide_eq_true rfl); go_simp <;> with_reducible rfl)
  simp only [Act.put, List.setIfInBounds_toArray, List.set_cons_zero, List.set_cons_succ]
  refine take_at (i := 19) (v := ?v943) rfl (by kernel_rfl) (by kernel_rfl) (by kernel_rfl) (fun _ _ _ h => h) (Or.inl ⟨by rfl, ?y943⟩) hHeld ?t943
  case y943 => (intro wx hSw; go_simp <;> with_reducible rfl)
  simp only [Act.put, List.setIfInBounds_toArray, List.set_cons_zero, List.set_cons_succ]
  refine take_at (i := 20) (v := ?v944) rfl (by kernel_rfl) (by kernel_rfl) (by kernel_rfl) (fun _ _ _ h => h) (Or.inl ⟨by rfl, ?y944⟩) hHeld ?t944
  case y944 => (intro wx hSw; go_simp <;> with_reducible rfl)
  simp only [Act.put, List.setIfInBounds_toArray, List.set_cons_zero, List.set_cons_succ]
  refine take_at (i := 21) (v := ?v945) rfl (by kernel_rfl) (by kernel_rfl) (by kernel_rfl) (fun _ _ _ h => h) (Or.inl ⟨by rfl, ?y945⟩) hHeld ?t945
  case y945 => (intro wx hSw; go_simp <;> with_reducible rfl)
  simp only [Act.put, List.setIfInBounds_toArray, List.set_cons_zero, List.set_cons_succ]
  refine take_at (i := 22) (v := ?v946) rfl (by kernel_rfl) (by kernel_rfl) (by kernel_rfl) (fun _ _ _ h => h) (Or.inl ⟨by rfl, ?y946⟩) hHeld ?t946
  case y946 => (intro wx hSw; have hc4 : wx.cell? ⟨w.heap.size, 4, none⟩ = some (.int .i64 p.2.2.2.2.1) := hSw.2.c 4 (of_decide_eq_true rfl); go_simp <;> with_reducible rfl)
  simp only [Act.put, List.setIfInBounds_toArray, List.set_cons_zero, List.set_cons_succ]
  refine take_at (i := 25) (v := ?v947) rfl (by kernel_rfl) (by kernel_rfl) (by kernel_rfl) (fun _ _ _ h => h) (Or.inl ⟨by rfl, ?y947⟩) hHeld ?t947
  case y947 => (intro wx hSw; go_simp <;> with_reducible rfl)
  simp only [Act.put, List.setIfInBounds_toArray, List.set_cons_zero, List.set_cons_succ]
  refine take_at (i := 26) (v := ?v948) rfl (by kernel_rfl) (by kernel_rfl) (by kernel_rfl) (fun _ _ _ h => h) (Or.inl ⟨by rfl, ?y948⟩) hHeld ?t948
  case y948 => (intro wx hSw; go_simp <;> with_reducible rfl)
  simp only [Act.put, List.setIfInBounds_toArray, List.set_cons_zero, List.set_cons_succ]
  refine take_at (i := 27) (v := ?v949) rfl (by kernel_rfl) (by kernel_rfl) (by kernel_rfl) (fun _ _ _ h => h) (Or.inl ⟨by rfl, ?y949⟩) hHeld ?t949
  case y949 => (intro wx hSw; go_simp <;> with_reducible rfl)
  simp only [Act.put, List.setIfInBounds_toArray, List.set_cons_zero, List.set_cons_succ]
  refine take_at (i := 28) (v := ?v950) rfl (by kernel_rfl) (by kernel_rfl) (by kernel_rfl) (fun _ _ _ h => h) (Or.inl ⟨by rfl, ?y950⟩) hHeld ?t950
  case y950 => (intro wx hSw; go_simp <;> with_reducible rfl)
  simp only [Act.put, List.setIfInBounds_toArray, List.set_cons_zero, List.set_cons_succ]
  refine take_at (i := 29) (v := ?v951) rfl (by kernel_rfl) (by kernel_rfl) (by kernel_rfl) (fun _ _ _ h => h) (Or.inl ⟨by rfl, ?y951⟩) hHeld ?t951
  case y951 => (intro wx hSw; have hc7 : wx.cell? ⟨w.heap.size + 1, 7, none⟩ = some (.int .i64 q.2.2.2.2.2.2.2.1) := hSw.1.c 7 (of_decide_eq_true rfl); go_simp <;> with_reducible rfl)
  simp only [Act.put, List.setIfInBounds_toArray, List.set_cons_zero, List.set_cons_succ]
  refine take_at (i := 30) (v := ?v952) rfl (by kernel_rfl) (by kernel_rfl) (by kernel_rfl) (fun _ _ _ h => h) (Or.inl ⟨by rfl, ?y952⟩) hHeld ?t952
  case y952 => (intro wx hSw; go_simp <;> with_reducible rfl)
  simp only [Act.put, List.setIfInBounds_toArray, List.set_cons_zero, List.set_cons_succ]
  refine take_at (i := 31) (v := ?v953) rfl (by kernel_rfl) (by kernel_rfl) (by kernel_rfl) (fun _ _ _ h => h) (Or.inl ⟨by rfl, ?y953⟩) hHeld ?t953
  case y953 => (intro wx hSw; go_simp <;> with_reducible rfl)
  simp only [Act.put, List.setIfInBounds_toArray, List.set_cons_zero, List.set_cons_succ]
  refine take_at (i := 32) (v := ?v954) rfl (by kernel_rfl) (by kernel_rfl) (by kernel_rfl) (fun _ _ _ h => h) (Or.inl ⟨by rfl, ?y954⟩) hHeld ?t954
  case y954 => (intro wx hSw; go_simp <;> with_reducible rfl)
  simp only [Act.put, List.setIfInBounds_toArray, List.set_cons_zero, List.set_cons_succ]
  refine take_at (i := 33) (v := ?v955) rfl (by kernel_rfl) (by kernel_rfl) (by kernel_rfl) (fun _ _ _ h => h) (Or.inl ⟨by rfl, ?y955⟩) hHeld ?t955
  case y955 => (intro wx hSw; have hc7 : wx.cell? ⟨w.heap.size, 7, none⟩ = some (.int .i64 p.2.2.2.2.2.2.2.1) := hSw.2.c 7 (of_decide_eq_true rfl); go_simp <;> with_reducible rfl)
  simp only [Act.put, List.setIfInBounds_toArray, List.set_cons_zero, List.set_cons_succ]
  refine take_at (i := 36) (v := ?v956) rfl (by kernel_rfl) (by kernel_rfl) (by kernel_rfl) (fun _ _ _ h => h) (Or.inl ⟨by rfl, ?y956⟩) hHeld ?t956
  case y956 => (intro wx hSw; go_simp <;> with_reducible rfl)
  simp only [Act.put, List.setIfInBounds_toArray, List.set_cons_zero, List.set_cons_succ]
  refine call_at (i := 13) (by kernel_rfl) rfl (fun K hK => ?_)
  go_simp
  refine (Mul_any b r23.2 q.2.1 p.2.1 _ BF_24.drew).mono ?_
  rintro e w25 ⟨rfl, f25, k25⟩
  generalize e25 : mulS r23.2 q.2.1 p.2.1 = r25 at f25 ⊢
  have E25 : Hid _ := e25
  clear e25
  have K25 : Kept b w w25 := Kept.trans K24.drew k25
  have B0_25 : Arr w.heap.size [.int .i64 p.1, .int .i64 p.2.1, .int .i64 p.2.2.1, .int .i64 p.2.2.2.1, .int .i64 p.2.2.2.2.1, .int .i64 p.2.2.2.2.2.1, .int .i64 p.2.2.2.2.2.2.1, .int .i64 p.2.2.2.2.2.2.2.1, .int .i64 p.2.2.2.2.2.2.2.2] w25 := B0_24.drew.kept k25 (by omega)
  have B1_25 : Arr (w.heap.size + 1) [.int .i64 q.1, .int .i64 q.2.1, .int .i64 q.2.2.1, .int .i64 q.2.2.2.1, .int .i64 q.2.2.2.2.1, .int .i64 q.2.2.2.2.2.1, .int .i64 q.2.2.2.2.2.2.1, .int .i64 q.2.2.2.2.2.2.2.1, .int .i64 q.2.2.2.2.2.2.2.2] w25 := B1_24.drew.kept k25 (by omega)
  have B2_25 : Arr (w.heap.size + 1 + 1) [.int .i64 r5.1, .int .i64 r11.1, .int .i64 r17.1, .int .i64 r23.1, .int .i64 0, .int .i64 0, .int .i64 0, .int .i64 0, .int .i64 0] w25 := B2_24.drew.kept k25 (by omega)
  have z25 := B2_25.lies
  clear hHeld
  refine hK.out _ _ ⟨B1_25, B0_25⟩ (fun hHeld => ?_)
  clear hK K K24 BF_24 B0_24 B1_24 B2_24 k25
  refine call_at (i := 23) (by kernel_rfl) rfl (fun K hK => ?_)
  go_simp
  refine (Mul_any b r25.2 q.2.2.2.2.1 p.2.2.2.2.1 _ f25).mono ?_
  rintro e w26 ⟨rfl, f26, k26⟩
  generalize e26 : mulS r25.2 q.2.2.2.2.1 p.2.2.2.2.1 = r26 at f26 ⊢
  have E26 : Hid _ := e26
  clear e26
  have K26 : Kept b w w26 := Kept.trans K25 k26
  have B0_26 : Arr w.heap.size [.int .i64 p.1, .int .i64 p.2.1, .int .i64 p.2.2.1, .int .i64 p.2.2.2.1, .int .i64 p.2.2.2.2.1, .int .i64 p.2.2.2.2.2.1, .int .i64 p.2.2.2.2.2.2.1, .int .i64 p.2.2.2.2.2.2.2.1, .int .i64 p.2.2.2.2.2.2.2.2] w26 := B0_25.kept k26 (by omega)
  have B1_26 : Arr (w.heap.size + 1) [.int .i64 q.1, .int .i64 q.2.1, .int .i64 q.2.2.1, .int .i64 q.2.2.2.1, .int .i64 q.2.2.2.2.1, .int .i64 q.2.2.2.2.2.1, .int .i64 q.2.2.2.2.2.2.1, .int .i64 q.2.2.2.2.2.2.2.1, .int .i64 q.2.2.2.2.2.2.2.2] w26 := B1_25.kept k26 (by omega)
  have B2_26 : Arr (w.heap.size + 1 + 1) [.int .i64 r5.1, .int .i64 r11.1, .int .i64 r17.1, .int .i64 r23.1, .int .i64 0, .int .i64 0, .int .i64 0, .int .i64 0, .int .i64 0] w26 := B2_25.kept k26 (by omega)
  have z26 := B2_26.lies
  clear hHeld
  refine hK.out _ _ ⟨B1_26, B0_26⟩ (fun hHeld => ?_)
  clear hK K K25 f25 B0_25 B1_25 B2_25 k26
  refine call_at (i := 24) (by kernel_rfl) rfl (fun K hK => ?_)
  go_simp
  refine (Add_any b r26.2 r25.1 r26.1 _ f26).mono ?_
  rintro e w27 ⟨rfl, f27, k27⟩
  generalize e27 : addS r26.2 r25.1 r26.1 = r27 at f27 ⊢
  have E27 : Hid _ := e27
  clear e27
  have K27 : Kept b w w27 := Kept.trans K26 k27
  have B0_27 : Arr w.heap.size [.int .i64 p.1, .int .i64 p.2.1, .int .i64 p.2.2.1, .int .i64 p.2.2.2.1, .int .i64 p.2.2.2.2.1, .int .i64 p.2.2.2.2.2.1, .int .i64 p.2.2.2.2.2.2.1, .int .i64 p.2.2.2.2.2.2.2.1, .int .i64 p.2.2.2.2.2.2.2.2] w27 := B0_26.kept k27 (by omega)
  have B1_27 : Arr (w.heap.size + 1) [.int .i64 q.1, .int .i64 q.2.1, .int .i64 q.2.2.1, .int .i64 q.2.2.2.1, .int .i64 q.2.2.2.2.1, .int .i64 q.2.2.2.2.2.1, .int .i64 q.2.2.2.2.2.2.1, .int .i64 q.2.2.2.2.2.2.2.1, .int .i64 q.2.2.2.2.2.2.2.2] w27 := B1_26.kept k27 (by omega)
  have B2_27 : Arr (w.heap.size + 1 + 1) [.int .i64 r5.1, .int .i64 r11.1, .int .i64 r17.1, .int .i64 r23.1, .int .i64 0, .int .i64 0, .int .i64 0, .int .i64 0, .int .i64 0] w27 := B2_26.kept k27 (by omega)
  have z27 := B2_27.lies
  clear hHeld
  refine hK.out _ _ ⟨B1_27, B0_27⟩ (fun hHeld => ?_)
  clear hK K K26 f26 B0_26 B1_26 B2_26 k27
  refine call_at (i := 34) (by kernel_rfl) rfl (fun K hK => ?_)
  go_simp
  refine (Mul_any b r27.2 q.2.2.2.2.2.2.2.1 p.2.2.2.2.2.2.2.1 _ f27).mono ?_
  rintro e w28 ⟨rfl, f28, k28⟩
  generalize e28 : mulS r27.2 q.2.2.2.2.2.2.2.1 p.2.2.2.2.2.2.2.1 = r28 at f28 ⊢
  have E28 : Hid _ := e28
  clear e28
  have K28 : Kept b w w28 := Kept.trans K27 k28
  have B0_28 : Arr w.heap.size [.int .i64 p.1, .int .i64 p.2.1, .int .i64 p.2.2.1, .int .i64 p.2.2.2.1, .int .i64 p.2.2.2.2.1, .int .i64 p.2.2.2.2.2.1, .int .i64 p.2.2.2.2.2.2.1, .int .i64 p.2.2.2.2.2.2.2.1, .int .i64 p.2.2.2.2.2.2.2.2] w28 := B0_27.kept k28 (by omega)
  have B1_28 : Arr (w.heap.size + 1) [.int .i64 q.1, .int .i64 q.2.1, .int .i64 q.2.2.1, .int .i64 q.2.2.2.1, .int .i64 q.2.2.2.2.1, .int .i64 q.2.2.2.2.2.1, .int .i64 q.2.2.2.2.2.2.1, .int .i64 q.2.2.2.2.2.2.2.1, .int .i64 q.2.2.2.2.2.2.2.2] w28 := B1_27.kept k28 (by omega)
  have B2_28 : Arr (w.heap.size + 1 + 1) [.int .i64 r5.1, .int .i64 r11.1, .int .i64 r17.1, .int .i64 r23.1, .int .i64 0, .int .i64 0, .int .i64 0, .int .i64 0, .int .i64 0] w28 := B2_27.kept k28 (by omega)
  have z28 := B2_28.lies
  clear hHeld
  refine hK.out _ _ ⟨B1_28, B0_28⟩ (fun hHeld => ?_)
  clear hK K K27 f27 B0_27 B1_27 B2_27 k28
  refine call_at (i := 35) (by kernel_rfl) rfl (fun K hK => ?_)
  go_simp
  refine (Add_any b r28.2 r27.1 r28.1 _ f28).mono ?_
  rintro e w29 ⟨rfl, f29, k29⟩
  generalize e29 : addS r28.2 r27.1 r28.1 = r29 at f29 ⊢
  have E29 : Hid _ := e29
  clear e29
  have K29 : Kept b w w29 := Kept.trans K28 k29
  have B0_29 : Arr w.heap.size [.int .i64 p.1, .int .i64 p.2.1, .int .i64 p.2.2.1, .int .i64 p.2.2.2.1, .int .i64 p.2.2.2.2.1, .int .i64 p.2.2.2.2.2.1, .int .i64 p.2.2.2.2.2.2.1, .int .i64 p.2.2.2.2.2.2.2.1, .int .i64 p.2.2.2.2.2.2.2.2] w29 := B0_28.kept k29 (by omega)
  have B1_29 : Arr (w.heap.size + 1) [.int .i64 q.1, .int .i64 q.2.1, .int .i64 q.2.2.1, .int .i64 q.2.2.2.1, .int .i64 q.2.2.2.2.1, .int .i64 q.2.2.2.2.2.1, .int .i64 q.2.2.2.2.2.2.1, .int .i64 q.2.2.2.2.2.2.2.1, .int .i64 q.2.2.2.2.2.2.2.2] w29 := B1_28.kept k29 (by omega)
  have B2_29 : Arr (w.heap.size + 1 + 1) [.int .i64 r5.1, .int .i64 r11.1, .int .i64 r17.1, .int .i64 r23.1, .int .i64 0, .int .i64 0, .int .i64 0, .int .i64 0, .int .i64 0] w29 := B2_28.kept k29 (by omega)
  have z29 := B2_29.lies
  clear hHeld
  refine hK.out _ _ ⟨B1_29, B0_29⟩ (fun hHeld => ?_)
  clear hK K K28 f28 B0_28 B1_28 B2_28 k29
  refine take_at (i := 37) (v := ?v957) rfl (by kernel_rfl) (by kernel_rfl) (by kernel_rfl) (fun _ _ _ h => h) (Or.inl ⟨by rfl, ?y957⟩) hHeld ?t957
  case y957 => (intro wx hSw; go_simp <;> with_reducible rfl)
  simp only [Act.put, List.setIfInBounds_toArray, List.set_cons_zero, List.set_cons_succ]
  refine call_at (i := 38) (by kernel_rfl) rfl (fun K hK => ?_)
  have c18_B2_4 : w29.cell? ⟨w.heap.size + 1 + 1, 4, none⟩ = some (.int .i64 0) := B2_29.c 4 (of_decide_eq_true rfl)
  have g18_B2_4 := B2_29.f 4 (of_decide_eq_true rfl)
  go_simp
  clear hHeld
  refine hK.out _ _ ⟨(B1_29.new (w.heap.size + 1 + 1) 4 (by omega) (.int .i64 r29.1)), (B0_29.new (w.heap.size + 1 + 1) 4 (by omega) (.int .i64 r29.1))⟩ (fun hHeld => ?_)
  clear hK K c18_B2_4 g18_B2_4
  refine wpAnyH_done (by kernel_rfl) ?_ _
  clear hHeld
  have P29 : Hid (plS r23.2 q.2.1 p.2.1 q.2.2.2.2.1 p.2.2.2.2.1 q.2.2.2.2.2.2.2.1 p.2.2.2.2.2.2.2.1 = r29) := by show _ = _; unfold plS; simp only [E25.out, E26.out, E27.out, E28.out, E29.out]
  clear E25 E26 E27 E28 E29
  go_wp2_with fail
  refine rounds_letter (S := fun w' => Kept b w w' ∧ Fl b r29.2 w' ∧ Arr w.heap.size [.int .i64 p.1, .int .i64 p.2.1, .int .i64 p.2.2.1, .int .i64 p.2.2.2.1, .int .i64 p.2.2.2.2.1, .int .i64 p.2.2.2.2.2.1, .int .i64 p.2.2.2.2.2.2.1, .int .i64 p.2.2.2.2.2.2.2.1, .int .i64 p.2.2.2.2.2.2.2.2] w' ∧ Arr (w.heap.size + 1) [.int .i64 q.1, .int .i64 q.2.1, .int .i64 q.2.2.1, .int .i64 q.2.2.2.1, .int .i64 q.2.2.2.2.1, .int .i64 q.2.2.2.2.2.1, .int .i64 q.2.2.2.2.2.2.1, .int .i64 q.2.2.2.2.2.2.2.1, .int .i64 q.2.2.2.2.2.2.2.2] w' ∧ Arr (w.heap.size + 1 + 1) [.int .i64 r5.1, .int .i64 r11.1, .int .i64 r17.1, .int .i64 r23.1, .int .i64 r29.1, .int .i64 0, .int .i64 0, .int .i64 0, .int .i64 0] w') ⟨(K29.new _ _ (by omega) _), (f29.new (w.heap.size + 1 + 1) 4 (by omega) (.int .i64 r29.1)), (B0_29.new (w.heap.size + 1 + 1) 4 (by omega) (.int .i64 r29.1)), (B1_29.new (w.heap.size + 1 + 1) 4 (by omega) (.int .i64 r29.1)), (B2_29.put 4 (of_decide_eq_true rfl) (.int .i64 r29.1) [.int .i64 r5.1, .int .i64 r11.1, .int .i64 r17.1, .int .i64 r23.1, .int .i64 r29.1, .int .i64 0, .int .i64 0, .int .i64 0, .int .i64 0] rfl)⟩ ?_
  rintro w30 ⟨K30, BF_30, B0_30, B1_30, B2_30⟩
  have z30 := B2_30.lies
  clear K29 f29 B0_29 B1_29 B2_29
  rw [rounds_succ]
  go_wp2_with fail
  refine wp_region_held_drew (S := fun w' => Arr (w.heap.size + 1) [.int .i64 q.1, .int .i64 q.2.1, .int .i64 q.2.2.1, .int .i64 q.2.2.2.1, .int .i64 q.2.2.2.2.1, .int .i64 q.2.2.2.2.2.1, .int .i64 q.2.2.2.2.2.2.1, .int .i64 q.2.2.2.2.2.2.2.1, .int .i64 q.2.2.2.2.2.2.2.2] w' ∧ Arr w.heap.size [.int .i64 p.1, .int .i64 p.2.1, .int .i64 p.2.2.1, .int .i64 p.2.2.2.1, .int .i64 p.2.2.2.2.1, .int .i64 p.2.2.2.2.2.1, .int .i64 p.2.2.2.2.2.2.1, .int .i64 p.2.2.2.2.2.2.2.1, .int .i64 p.2.2.2.2.2.2.2.2] w') (by kernel_rfl) ⟨B1_30.drew, B0_30.drew⟩ (fun hHeld => ?_)
  refine take_at (i := 0) (v := ?v958) rfl (by kernel_rfl) (by kernel_rfl) (by kernel_rfl) (fun _ _ _ h => h) (Or.inl ⟨by rfl, ?y958⟩) hHeld ?t958
  case y958 => (intro wx hSw; go_simp <;> with_reducible rfl)
  simp only [Act.put, List.setIfInBounds_toArray, List.set_cons_zero, List.set_cons_succ]
  refine take_at (i := 1) (v := ?v959) rfl (by kernel_rfl) (by kernel_rfl) (by kernel_rfl) (fun _ _ _ h => h) (Or.inl ⟨by rfl, ?y959⟩) hHeld ?t959
  case y959 => (intro wx hSw; go_simp <;> with_reducible rfl)
  simp only [Act.put, List.setIfInBounds_toArray, List.set_cons_zero, List.set_cons_succ]
  refine take_at (i := 2) (v := ?v960) rfl (by kernel_rfl) (by kernel_rfl) (by kernel_rfl) (fun _ _ _ h => h) (Or.inl ⟨by rfl, ?y960⟩) hHeld ?t960
  case y960 => (intro wx hSw; go_simp <;> with_reducible rfl)
  simp only [Act.put, List.setIfInBounds_toArray, List.set_cons_zero, List.set_cons_succ]
  refine take_at (i := 3) (v := ?v961) rfl (by kernel_rfl) (by kernel_rfl) (by kernel_rfl) (fun _ _ _ h => h) (Or.inl ⟨by rfl, ?y961⟩) hHeld ?t961
  case y961 => (intro wx hSw; go_simp <;> with_reducible rfl)
  simp only [Act.put, List.setIfInBounds_toArray, List.set_cons_zero, List.set_cons_succ]
  refine take_at (i := 4) (v := ?v962) rfl (by kernel_rfl) (by kernel_rfl) (by kernel_rfl) (fun _ _ _ h => h) (Or.inl ⟨by rfl, ?y962⟩) hHeld ?t962
  case y962 => (intro wx hSw; go_simp <;> with_reducible rfl)
  simp only [Act.put, List.setIfInBounds_toArray, List.set_cons_zero, List.set_cons_succ]
  refine take_at (i := 5) (v := ?v963) rfl (by kernel_rfl) (by kernel_rfl) (by kernel_rfl) (fun _ _ _ h => h) (Or.inl ⟨by rfl, ?y963⟩) hHeld ?t963
  case y963 => (intro wx hSw; go_simp <;> with_reducible rfl)
  simp only [Act.put, List.setIfInBounds_toArray, List.set_cons_zero, List.set_cons_succ]
  refine take_at (i := 6) (v := ?v964) rfl (by kernel_rfl) (by kernel_rfl) (by kernel_rfl) (fun _ _ _ h => h) (Or.inl ⟨by rfl, ?y964⟩) hHeld ?t964
  case y964 => (intro wx hSw; go_simp <;> with_reducible rfl)
  simp only [Act.put, List.setIfInBounds_toArray, List.set_cons_zero, List.set_cons_succ]
  refine take_at (i := 7) (v := ?v965) rfl (by kernel_rfl) (by kernel_rfl) (by kernel_rfl) (fun _ _ _ h => h) (Or.inl ⟨by rfl, ?y965⟩) hHeld ?t965
  case y965 => (intro wx hSw; go_simp <;> with_reducible rfl)
  simp only [Act.put, List.setIfInBounds_toArray, List.set_cons_zero, List.set_cons_succ]
  refine take_at (i := 8) (v := ?v966) rfl (by kernel_rfl) (by kernel_rfl) (by kernel_rfl) (fun _ _ _ h => h) (Or.inl ⟨by rfl, ?y966⟩) hHeld ?t966
  case y966 => (intro wx hSw; have hc1 : wx.cell? ⟨w.heap.size + 1, 1, none⟩ = some (.int .i64 q.2.1) := hSw.1.c 1 (of_decide_eq_true rfl); go_simp <;> with_reducible rfl)
  simp only [Act.put, List.setIfInBounds_toArray, List.set_cons_zero, List.set_cons_succ]
  refine take_at (i := 9) (v := ?v967) rfl (by kernel_rfl) (by kernel_rfl) (by kernel_rfl) (fun _ _ _ h => h) (Or.inl ⟨by rfl, ?y967⟩) hHeld ?t967
  case y967 => (intro wx hSw; go_simp <;> with_reducible rfl)
  simp only [Act.put, List.setIfInBounds_toArray, List.set_cons_zero, List.set_cons_succ]
  refine take_at (i := 10) (v := ?v968) rfl (by kernel_rfl) (by kernel_rfl) (by kernel_rfl) (fun _ _ _ h => h) (Or.inl ⟨by rfl, ?y968⟩) hHeld ?t968
  case y968 => (intro wx hSw; go_simp <;> with_reducible rfl)
  simp only [Act.put, List.setIfInBounds_toArray, List.set_cons_zero, List.set_cons_succ]
  refine take_at (i := 11) (v := ?v969) rfl (by kernel_rfl) (by kernel_rfl) (by kernel_rfl) (fun _ _ _ h => h) (Or.inl ⟨by rfl, ?y969⟩) hHeld ?t969
  case y969 => (intro wx hSw; go_simp <;> with_reducible rfl)
  simp only [Act.put, List.setIfInBounds_toArray, List.set_cons_zero, List.set_cons_succ]
  refine take_at (i := 12) (v := ?v970) rfl (by kernel_rfl) (by kernel_rfl) (by kernel_rfl) (fun _ _ _ h => h) (Or.inl ⟨by rfl, ?y970⟩) hHeld ?t970
  case y970 => (intro wx hSw; have hc2 : wx.cell? ⟨w.heap.size, 2, none⟩ = some (.int .i64 p.2.2.1) := hSw.2.c 2 (of_decide_eq_true rfl); go_simp <;> with_reducible rfl)
  simp only [Act.put, List.setIfInBounds_toArray, List.set_cons_zero, List.set_cons_succ]
  refine take_at (i := 14) (v := ?v971) rfl (by kernel_rfl) (by kernel_rfl) (by kernel_rfl) (fun _ _ _ h => h) (Or.inl ⟨by rfl, ?y971⟩) hHeld ?t971
  case y971 => (intro wx hSw; go_simp <;> with_reducible rfl)
  simp only [Act.put, List.setIfInBounds_toArray, List.set_cons_zero, List.set_cons_succ]
  refine take_at (i := 15) (v := ?v972) rfl (by kernel_rfl) (by kernel_rfl) (by kernel_rfl) (fun _ _ _ h => h) (Or.inl ⟨by rfl, ?y972⟩) hHeld ?t972
  case y972 => (intro wx hSw; go_simp <;> with_reducible rfl)
  simp only [Act.put, List.setIfInBounds_toArray, List.set_cons_zero, List.set_cons_succ]
  refine take_at (i := 16) (v := ?v973) rfl (by kernel_rfl) (by kernel_rfl) (by kernel_rfl) (fun _ _ _ h => h) (Or.inl ⟨by rfl, ?y973⟩) hHeld ?t973
  case y973 => (intro wx hSw; go_simp <;> with_reducible rfl)
  simp only [Act.put, List.setIfInBounds_toArray, List.set_cons_zero, List.set_cons_succ]
  refine take_at (i := 17) (v := ?v974) rfl (by kernel_rfl) (by kernel_rfl) (by kernel_rfl) (fun _ _ _ h => h) (Or.inl ⟨by rfl, ?y974⟩) hHeld ?t974
  case y974 => (intro wx hSw; go_simp <;> with_reducible rfl)
  simp only [Act.put, List.setIfInBounds_toArray, List.set_cons_zero, List.set_cons_succ]
  refine take_at (i := 18) (v := ?v975) rfl (by kernel_rfl) (by kernel_rfl) (by kernel_rfl) (fun _ _ _ h => h) (Or.inl ⟨by rfl, ?y975⟩) hHeld ?t975
  case y975 => (intro wx hSw; have hc4 : wx.cell? ⟨w.heap.size + 1, 4, none⟩ = some (.int .i64 q.2.2.2.2.1) := hSw.1.c 4 (of_decide_eq_true rfl); go_simp <;> with_reducible rfl)
  simp only [Act.put, List.setIfInBounds_toArray, List.set_cons_zero, List.set_cons_succ]
  refine take_at (i := 19) (v := ?v976) rfl (by kernel_rfl) (by kernel_rfl) (by kernel_rfl) (fun _ _ _ h => h) (Or.inl ⟨by rfl, ?y976⟩) hHeld ?t976
  case y976 => (intro wx hSw; go_simp <;> with_reducible rfl)
  simp only [Act.put, List.setIfInBounds_toArray, List.set_cons_zero, List.set_cons_succ]
  refine take_at (i := 20) (v := ?v977) rfl (by kernel_rfl) (by kernel_rfl) (by kernel_rfl) (fun _ _ _ h => h) (Or.inl ⟨by rfl, ?y977⟩) hHeld ?t977
  case y977 => (intro wx hSw; go_simp <;> with_reducible rfl)
  simp only [Act.put, List.setIfInBounds_toArray, List.set_cons_zero, List.set_cons_succ]
  refine take_at (i := 21) (v := ?v978) rfl (by kernel_rfl) (by kernel_rfl) (by kernel_rfl) (fun _ _ _ h => h) (Or.inl ⟨by rfl, ?y978⟩) hHeld ?t978
  case y978 => (intro wx hSw; go_simp <;> with_reducible rfl)
  simp only [Act.put, List.setIfInBounds_toArray, List.set_cons_zero, List.set_cons_succ]
  refine take_at (i := 22) (v := ?v979) rfl (by kernel_rfl) (by kernel_rfl) (by kernel_rfl) (fun _ _ _ h => h) (Or.inl ⟨by rfl, ?y979⟩) hHeld ?t979
  case y979 => (intro wx hSw; have hc5 : wx.cell? ⟨w.heap.size, 5, none⟩ = some (.int .i64 p.2.2.2.2.2.1) := hSw.2.c 5 (of_decide_eq_true rfl); go_simp <;> with_reducible rfl)
  simp only [Act.put, List.setIfInBounds_toArray, List.set_cons_zero, List.set_cons_succ]
  refine take_at (i := 25) (v := ?v980) rfl (by kernel_rfl) (by kernel_rfl) (by kernel_rfl) (fun _ _ _ h => h) (Or.inl ⟨by rfl, ?y980⟩) hHeld ?t980
  case y980 => (intro wx hSw; go_simp <;> with_reducible rfl)
  simp only [Act.put, List.setIfInBounds_toArray, List.set_cons_zero, List.set_cons_succ]
  refine take_at (i := 26) (v := ?v981) rfl (by kernel_rfl) (by kernel_rfl) (by kernel_rfl) (fun _ _ _ h => h) (Or.inl ⟨by rfl, ?y981⟩) hHeld ?t981
  case y981 => (intro wx hSw; go_simp <;> with_reducible rfl)
  simp only [Act.put, List.setIfInBounds_toArray, List.set_cons_zero, List.set_cons_succ]
  refine take_at (i := 27) (v := ?v982) rfl (by kernel_rfl) (by kernel_rfl) (by kernel_rfl) (fun _ _ _ h => h) (Or.inl ⟨by rfl, ?y982⟩) hHeld ?t982
  case y982 => (intro wx hSw; go_simp <;> with_reducible rfl)
  simp only [Act.put, List.setIfInBounds_toArray, List.set_cons_zero, List.set_cons_succ]
  refine take_at (i := 28) (v := ?v983) rfl (by kernel_rfl) (by kernel_rfl) (by kernel_rfl) (fun _ _ _ h => h) (Or.inl ⟨by rfl, ?y983⟩) hHeld ?t983
  case y983 => (intro wx hSw; go_simp <;> with_reducible rfl)
  simp only [Act.put, List.setIfInBounds_toArray, List.set_cons_zero, List.set_cons_succ]
  refine take_at (i := 29) (v := ?v984) rfl (by kernel_rfl) (by kernel_rfl) (by kernel_rfl) (fun _ _ _ h => h) (Or.inl ⟨by rfl, ?y984⟩) hHeld ?t984
  case y984 => (intro wx hSw; have hc7 : wx.cell? ⟨w.heap.size + 1, 7, none⟩ = some (.int .i64 q.2.2.2.2.2.2.2.1) := hSw.1.c 7 (of_decide_eq_true rfl); go_simp <;> with_reducible rfl)
  simp only [Act.put, List.setIfInBounds_toArray, List.set_cons_zero, List.set_cons_succ]
  refine take_at (i := 30) (v := ?v985) rfl (by kernel_rfl) (by kernel_rfl) (by kernel_rfl) (fun _ _ _ h => h) (Or.inl ⟨by rfl, ?y985⟩) hHeld ?t985
  case y985 => (intro wx hSw; go_simp <;> with_reducible rfl)
  simp only [Act.put, List.setIfInBounds_toArray, List.set_cons_zero, List.set_cons_succ]
  refine take_at (i := 31) (v := ?v986) rfl (by kernel_rfl) (by kernel_rfl) (by kernel_rfl) (fun _ _ _ h => h) (Or.inl ⟨by rfl, ?y986⟩) hHeld ?t986
  case y986 => (intro wx hSw; go_simp <;> with_reducible rfl)
  simp only [Act.put, List.setIfInBounds_toArray, List.set_cons_zero, List.set_cons_succ]
  refine take_at (i := 32) (v := ?v987) rfl (by kernel_rfl) (by kernel_rfl) (by kernel_rfl) (fun _ _ _ h => h) (Or.inl ⟨by rfl, ?y987⟩) hHeld ?t987
  case y987 => (intro wx hSw; go_simp <;> with_reducible rfl)
  simp only [Act.put, List.setIfInBounds_toArray, List.set_cons_zero, List.set_cons_succ]
  refine take_at (i := 33) (v := ?v988) rfl (by kernel_rfl) (by kernel_rfl) (by kernel_rfl) (fun _ _ _ h => h) (Or.inl ⟨by rfl, ?y988⟩) hHeld ?t988
  case y988 => (intro wx hSw; have hc8 : wx.cell? ⟨w.heap.size, 8, none⟩ = some (.int .i64 p.2.2.2.2.2.2.2.2) := hSw.2.c 8 (of_decide_eq_true rfl); go_simp <;> with_reducible rfl)
  simp only [Act.put, List.setIfInBounds_toArray, List.set_cons_zero, List.set_cons_succ]
  refine take_at (i := 36) (v := ?v989) rfl (by kernel_rfl) (by kernel_rfl) (by kernel_rfl) (fun _ _ _ h => h) (Or.inl ⟨by rfl, ?y989⟩) hHeld ?t989
  case y989 => (intro wx hSw; go_simp <;> with_reducible rfl)
  simp only [Act.put, List.setIfInBounds_toArray, List.set_cons_zero, List.set_cons_succ]
  refine call_at (i := 13) (by kernel_rfl) rfl (fun K hK => ?_)
  go_simp
  refine (Mul_any b r29.2 q.2.1 p.2.2.1 _ BF_30.drew).mono ?_
  rintro e w31 ⟨rfl, f31, k31⟩
  generalize e31 : mulS r29.2 q.2.1 p.2.2.1 = r31 at f31 ⊢
  have E31 : Hid _ := e31
  clear e31
  have K31 : Kept b w w31 := Kept.trans K30.drew k31
  have B0_31 : Arr w.heap.size [.int .i64 p.1, .int .i64 p.2.1, .int .i64 p.2.2.1, .int .i64 p.2.2.2.1, .int .i64 p.2.2.2.2.1, .int .i64 p.2.2.2.2.2.1, .int .i64 p.2.2.2.2.2.2.1, .int .i64 p.2.2.2.2.2.2.2.1, .int .i64 p.2.2.2.2.2.2.2.2] w31 := B0_30.drew.kept k31 (by omega)
  have B1_31 : Arr (w.heap.size + 1) [.int .i64 q.1, .int .i64 q.2.1, .int .i64 q.2.2.1, .int .i64 q.2.2.2.1, .int .i64 q.2.2.2.2.1, .int .i64 q.2.2.2.2.2.1, .int .i64 q.2.2.2.2.2.2.1, .int .i64 q.2.2.2.2.2.2.2.1, .int .i64 q.2.2.2.2.2.2.2.2] w31 := B1_30.drew.kept k31 (by omega)
  have B2_31 : Arr (w.heap.size + 1 + 1) [.int .i64 r5.1, .int .i64 r11.1, .int .i64 r17.1, .int .i64 r23.1, .int .i64 r29.1, .int .i64 0, .int .i64 0, .int .i64 0, .int .i64 0] w31 := B2_30.drew.kept k31 (by omega)
  have z31 := B2_31.lies
  clear hHeld
  refine hK.out _ _ ⟨B1_31, B0_31⟩ (fun hHeld => ?_)
  clear hK K K30 BF_30 B0_30 B1_30 B2_30 k31
  refine call_at (i := 23) (by kernel_rfl) rfl (fun K hK => ?_)
  go_simp
  refine (Mul_any b r31.2 q.2.2.2.2.1 p.2.2.2.2.2.1 _ f31).mono ?_
  rintro e w32 ⟨rfl, f32, k32⟩
  generalize e32 : mulS r31.2 q.2.2.2.2.1 p.2.2.2.2.2.1 = r32 at f32 ⊢
  have E32 : Hid _ := e32
  clear e32
  have K32 : Kept b w w32 := Kept.trans K31 k32
  have B0_32 : Arr w.heap.size [.int .i64 p.1, .int .i64 p.2.1, .int .i64 p.2.2.1, .int .i64 p.2.2.2.1, .int .i64 p.2.2.2.2.1, .int .i64 p.2.2.2.2.2.1, .int .i64 p.2.2.2.2.2.2.1, .int .i64 p.2.2.2.2.2.2.2.1, .int .i64 p.2.2.2.2.2.2.2.2] w32 := B0_31.kept k32 (by omega)
  have B1_32 : Arr (w.heap.size + 1) [.int .i64 q.1, .int .i64 q.2.1, .int .i64 q.2.2.1, .int .i64 q.2.2.2.1, .int .i64 q.2.2.2.2.1, .int .i64 q.2.2.2.2.2.1, .int .i64 q.2.2.2.2.2.2.1, .int .i64 q.2.2.2.2.2.2.2.1, .int .i64 q.2.2.2.2.2.2.2.2] w32 := B1_31.kept k32 (by omega)
  have B2_32 : Arr (w.heap.size + 1 + 1) [.int .i64 r5.1, .int .i64 r11.1, .int .i64 r17.1, .int .i64 r23.1, .int .i64 r29.1, .int .i64 0, .int .i64 0, .int .i64 0, .int .i64 0] w32 := B2_31.kept k32 (by omega)
  have z32 := B2_32.lies
  clear hHeld
  refine hK.out _ _ ⟨B1_32, B0_32⟩ (fun hHeld => ?_)
  clear hK K K31 f31 B0_31 B1_31 B2_31 k32
  refine call_at (i := 24) (by kernel_rfl) rfl (fun K hK => ?_)
  go_simp
  refine (Add_any b r32.2 r31.1 r32.1 _ f32).mono ?_
  rintro e w33 ⟨rfl, f33, k33⟩
  generalize e33 : addS r32.2 r31.1 r32.1 = r33 at f33 ⊢
  have E33 : Hid _ := e33
  clear e33
  have K33 : Kept b w w33 := Kept.trans K32 k33
  have B0_33 : Arr w.heap.size [.int .i64 p.1, .int .i64 p.2.1, .int .i64 p.2.2.1, .int .i64 p.2.2.2.1, .int .i64 p.2.2.2.2.1, .int .i64 p.2.2.2.2.2.1, .int .i64 p.2.2.2.2.2.2.1, .int .i64 p.2.2.2.2.2.2.2.1, .int .i64 p.2.2.2.2.2.2.2.2] w33 := B0_32.kept k33 (by omega)
  have B1_33 : Arr (w.heap.size + 1) [.int .i64 q.1, .int .i64 q.2.1, .int .i64 q.2.2.1, .int .i64 q.2.2.2.1, .int .i64 q.2.2.2.2.1, .int .i64 q.2.2.2.2.2.1, .int .i64 q.2.2.2.2.2.2.1, .int .i64 q.2.2.2.2.2.2.2.1, .int .i64 q.2.2.2.2.2.2.2.2] w33 := B1_32.kept k33 (by omega)
  have B2_33 : Arr (w.heap.size + 1 + 1) [.int .i64 r5.1, .int .i64 r11.1, .int .i64 r17.1, .int .i64 r23.1, .int .i64 r29.1, .int .i64 0, .int .i64 0, .int .i64 0, .int .i64 0] w33 := B2_32.kept k33 (by omega)
  have z33 := B2_33.lies
  clear hHeld
  refine hK.out _ _ ⟨B1_33, B0_33⟩ (fun hHeld => ?_)
  clear hK K K32 f32 B0_32 B1_32 B2_32 k33
  refine call_at (i := 34) (by kernel_rfl) rfl (fun K hK => ?_)
  go_simp
  refine (Mul_any b r33.2 q.2.2.2.2.2.2.2.1 p.2.2.2.2.2.2.2.2 _ f33).mono ?_
  rintro e w34 ⟨rfl, f34, k34⟩
  generalize e34 : mulS r33.2 q.2.2.2.2.2.2.2.1 p.2.2.2.2.2.2.2.2 = r34 at f34 ⊢
  have E34 : Hid _ := e34
  clear e34
  have K34 : Kept b w w34 := Kept.trans K33 k34
  have B0_34 : Arr w.heap.size [.int .i64 p.1, .int .i64 p.2.1, .int .i64 p.2.2.1, .int .i64 p.2.2.2.1, .int .i64 p.2.2.2.2.1, .int .i64 p.2.2.2.2.2.1, .int .i64 p.2.2.2.2.2.2.1, .int .i64 p.2.2.2.2.2.2.2.1, .int .i64 p.2.2.2.2.2.2.2.2] w34 := B0_33.kept k34 (by omega)
  have B1_34 : Arr (w.heap.size + 1) [.int .i64 q.1, .int .i64 q.2.1, .int .i64 q.2.2.1, .int .i64 q.2.2.2.1, .int .i64 q.2.2.2.2.1, .int .i64 q.2.2.2.2.2.1, .int .i64 q.2.2.2.2.2.2.1, .int .i64 q.2.2.2.2.2.2.2.1, .int .i64 q.2.2.2.2.2.2.2.2] w34 := B1_33.kept k34 (by omega)
  have B2_34 : Arr (w.heap.size + 1 + 1) [.int .i64 r5.1, .int .i64 r11.1, .int .i64 r17.1, .int .i64 r23.1, .int .i64 r29.1, .int .i64 0, .int .i64 0, .int .i64 0, .int .i64 0] w34 := B2_33.kept k34 (by omega)
  have z34 := B2_34.lies
  clear hHeld
  refine hK.out _ _ ⟨B1_34, B0_34⟩ (fun hHeld => ?_)
  clear hK K K33 f33 B0_33 B1_33 B2_33 k34
  refine call_at (i := 35) (by kernel_rfl) rfl (fun K hK => ?_)
  go_simp
  refine (Add_any b r34.2 r33.1 r34.1 _ f34).mono ?_
  rintro e w35 ⟨rfl, f35, k35⟩
  generalize e35 : addS r34.2 r33.1 r34.1 = r35 at f35 ⊢
  have E35 : Hid _ := e35
  clear e35
  have K35 : Kept b w w35 := Kept.trans K34 k35
  have B0_35 : Arr w.heap.size [.int .i64 p.1, .int .i64 p.2.1, .int .i64 p.2.2.1, .int .i64 p.2.2.2.1, .int .i64 p.2.2.2.2.1, .int .i64 p.2.2.2.2.2.1, .int .i64 p.2.2.2.2.2.2.1, .int .i64 p.2.2.2.2.2.2.2.1, .int .i64 p.2.2.2.2.2.2.2.2] w35 := B0_34.kept k35 (by omega)
  have B1_35 : Arr (w.heap.size + 1) [.int .i64 q.1, .int .i64 q.2.1, .int .i64 q.2.2.1, .int .i64 q.2.2.2.1, .int .i64 q.2.2.2.2.1, .int .i64 q.2.2.2.2.2.1, .int .i64 q.2.2.2.2.2.2.1, .int .i64 q.2.2.2.2.2.2.2.1, .int .i64 q.2.2.2.2.2.2.2.2] w35 := B1_34.kept k35 (by omega)
  have B2_35 : Arr (w.heap.size + 1 + 1) [.int .i64 r5.1, .int .i64 r11.1, .int .i64 r17.1, .int .i64 r23.1, .int .i64 r29.1, .int .i64 0, .int .i64 0, .int .i64 0, .int .i64 0] w35 := B2_34.kept k35 (by omega)
  have z35 := B2_35.lies
  clear hHeld
  refine hK.out _ _ ⟨B1_35, B0_35⟩ (fun hHeld => ?_)
  clear hK K K34 f34 B0_34 B1_34 B2_34 k35
  refine take_at (i := 37) (v := ?v990) rfl (by kernel_rfl) (by kernel_rfl) (by kernel_rfl) (fun _ _ _ h => h) (Or.inl ⟨by rfl, ?y990⟩) hHeld ?t990
  case y990 => (intro wx hSw; go_simp <;> with_reducible rfl)
  simp only [Act.put, List.setIfInBounds_toArray, List.set_cons_zero, List.set_cons_succ]
  refine call_at (i := 38) (by kernel_rfl) rfl (fun K hK => ?_)
  have c21_B2_5 : w35.cell? ⟨w.heap.size + 1 + 1, 5, none⟩ = some (.int .i64 0) := B2_35.c 5 (of_decide_eq_true rfl)
  have g21_B2_5 := B2_35.f 5 (of_decide_eq_true rfl)
  go_simp
  clear hHeld
  refine hK.out _ _ ⟨(B1_35.new (w.heap.size + 1 + 1) 5 (by omega) (.int .i64 r35.1)), (B0_35.new (w.heap.size + 1 + 1) 5 (by omega) (.int .i64 r35.1))⟩ (fun hHeld => ?_)
  clear hK K c21_B2_5 g21_B2_5
  refine wpAnyH_done (by kernel_rfl) ?_ _
  clear hHeld
  have P35 : Hid (plS r29.2 q.2.1 p.2.2.1 q.2.2.2.2.1 p.2.2.2.2.2.1 q.2.2.2.2.2.2.2.1 p.2.2.2.2.2.2.2.2 = r35) := by show _ = _; unfold plS; simp only [E31.out, E32.out, E33.out, E34.out, E35.out]
  clear E31 E32 E33 E34 E35
  go_wp2_with fail
  refine rounds_letter (S := fun w' => Kept b w w' ∧ Fl b r35.2 w' ∧ Arr w.heap.size [.int .i64 p.1, .int .i64 p.2.1, .int .i64 p.2.2.1, .int .i64 p.2.2.2.1, .int .i64 p.2.2.2.2.1, .int .i64 p.2.2.2.2.2.1, .int .i64 p.2.2.2.2.2.2.1, .int .i64 p.2.2.2.2.2.2.2.1, .int .i64 p.2.2.2.2.2.2.2.2] w' ∧ Arr (w.heap.size + 1) [.int .i64 q.1, .int .i64 q.2.1, .int .i64 q.2.2.1, .int .i64 q.2.2.2.1, .int .i64 q.2.2.2.2.1, .int .i64 q.2.2.2.2.2.1, .int .i64 q.2.2.2.2.2.2.1, .int .i64 q.2.2.2.2.2.2.2.1, .int .i64 q.2.2.2.2.2.2.2.2] w' ∧ Arr (w.heap.size + 1 + 1) [.int .i64 r5.1, .int .i64 r11.1, .int .i64 r17.1, .int .i64 r23.1, .int .i64 r29.1, .int .i64 r35.1, .int .i64 0, .int .i64 0, .int .i64 0] w') ⟨(K35.new _ _ (by omega) _), (f35.new (w.heap.size + 1 + 1) 5 (by omega) (.int .i64 r35.1)), (B0_35.new (w.heap.size + 1 + 1) 5 (by omega) (.int .i64 r35.1)), (B1_35.new (w.heap.size + 1 + 1) 5 (by omega) (.int .i64 r35.1)), (B2_35.put 5 (of_decide_eq_true rfl) (.int .i64 r35.1) [.int .i64 r5.1, .int .i64 r11.1, .int .i64 r17.1, .int .i64 r23.1, .int .i64 r29.1, .int .i64 r35.1, .int .i64 0, .int .i64 0, .int .i64 0] rfl)⟩ ?_
  rintro w36 ⟨K36, BF_36, B0_36, B1_36, B2_36⟩
  have z36 := B2_36.lies
  clear K35 f35 B0_35 B1_35 B2_35
  rw [rounds_succ]
  go_wp2_with fail
  rw [rounds_succ]
  go_wp2_with fail
  refine wp_loop_rounds 4 ?_
  rw [rounds_succ]
  go_wp2_with fail
  refine wp_region_held_drew (S := fun w' => Arr (w.heap.size + 1) [.int .i64 q.1, .int .i64 q.2.1, .int .i64 q.2.2.1, .int .i64 q.2.2.2.1, .int .i64 q.2.2.2.2.1, .int .i64 q.2.2.2.2.2.1, .int .i64 q.2.2.2.2.2.2.1, .int .i64 q.2.2.2.2.2.2.2.1, .int .i64 q.2.2.2.2.2.2.2.2] w' ∧ Arr w.heap.size [.int .i64 p.1, .int .i64 p.2.1, .int .i64 p.2.2.1, .int .i64 p.2.2.2.1, .int .i64 p.2.2.2.2.1, .int .i64 p.2.2.2.2.2.1, .int .i64 p.2.2.2.2.2.2.1, .int .i64 p.2.2.2.2.2.2.2.1, .int .i64 p.2.2.2.2.2.2.2.2] w') (by kernel_rfl) ⟨B1_36.drew, B0_36.drew⟩ (fun hHeld => ?_)
  refine take_at (i := 0) (v := ?v1090) rfl (by kernel_rfl) (by kernel_rfl) (by kernel_rfl) (fun _ _ _ h => h) (Or.inl ⟨by rfl, ?y1090⟩) hHeld ?t1090
  case y1090 => (intro wx hSw; go_simp <;> with_reducible rfl)
  simp only [Act.put, List.setIfInBounds_toArray, List.set_cons_zero, List.set_cons_succ]
  refine take_at (i := 1) (v := ?v1091) rfl (by kernel_rfl) (by kernel_rfl) (by kernel_rfl) (fun _ _ _ h => h) (Or.inl ⟨by rfl, ?y1091⟩) hHeld ?t1091
  case y1091 => (intro wx hSw; go_simp <;> with_reducible rfl)
  simp only [Act.put, List.setIfInBounds_toArray, List.set_cons_zero, List.set_cons_succ]
  refine take_at (i := 2) (v := ?v1092) rfl (by kernel_rfl) (by kernel_rfl) (by kernel_rfl) (fun _ _ _ h => h) (Or.inl ⟨by rfl, ?y1092⟩) hHeld ?t1092
  case y1092 => (intro wx hSw; go_simp <;> with_reducible rfl)
  simp only [Act.put, List.setIfInBounds_toArray, List.set_cons_zero, List.set_cons_succ]
  refine take_at (i := 3) (v := ?v1093) rfl (by kernel_rfl) (by kernel_rfl) (by kernel_rfl) (fun _ _ _ h => h) (Or.inl ⟨by rfl, ?y1093⟩) hHeld ?t1093
  case y1093 => (intro wx hSw; go_simp <;> with_reducible rfl)
  simp only [Act.put, List.setIfInBounds_toArray, List.set_cons_zero, List.set_cons_succ]
  refine take_at (i := 4) (v := ?v1094) rfl (by kernel_rfl) (by kernel_rfl) (by kernel_rfl) (fun _ _ _ h => h) (Or.inl ⟨by rfl, ?y1094⟩) hHeld ?t1094
  case y1094 => (intro wx hSw; go_simp <;> with_reducible rfl)
  simp only [Act.put, List.setIfInBounds_toArray, List.set_cons_zero, List.set_cons_succ]
  refine take_at (i := 5) (v := ?v1095) rfl (by kernel_rfl) (by kernel_rfl) (by kernel_rfl) (fun _ _ _ h => h) (Or.inl ⟨by rfl, ?y1095⟩) hHeld ?t1095
  case y1095 => (intro wx hSw; go_simp <;> with_reducible rfl)
  simp only [Act.put, List.setIfInBounds_toArray, List.set_cons_zero, List.set_cons_succ]
  refine take_at (i := 6) (v := ?v1096) rfl (by kernel_rfl) (by kernel_rfl) (by kernel_rfl) (fun _ _ _ h => h) (Or.inl ⟨by rfl, ?y1096⟩) hHeld ?t1096
  case y1096 => (intro wx hSw; go_simp <;> with_reducible rfl)
  simp only [Act.put, List.setIfInBounds_toArray, List.set_cons_zero, List.set_cons_succ]
  refine take_at (i := 7) (v := ?v1097) rfl (by kernel_rfl) (by kernel_rfl) (by kernel_rfl) (fun _ _ _ h => h) (Or.inl ⟨by rfl, ?y1097⟩) hHeld ?t1097
  case y1097 => (intro wx hSw; go_simp <;> with_reducible rfl)
  simp only [Act.put, List.setIfInBounds_toArray, List.set_cons_zero, List.set_cons_succ]
  refine take_at (i := 8) (v := ?v1098) rfl (by kernel_rfl) (by kernel_rfl) (by kernel_rfl) (fun _ _ _ h => h) (Or.inl ⟨by rfl, ?y1098⟩) hHeld ?t1098
  case y1098 => (intro wx hSw; have hc2 : wx.cell? ⟨w.heap.size + 1, 2, none⟩ = some (.int .i64 q.2.2.1) := hSw.1.c 2 (of_decide_eq_true rfl); go_simp <;> with_reducible rfl)
  simp only [Act.put, List.setIfInBounds_toArray, List.set_cons_zero, List.set_cons_succ]
  refine take_at (i := 9) (v := ?v1099) rfl (by kernel_rfl) (by kernel_rfl) (by kernel_rfl) (fun _ _ _ h => h) (Or.inl ⟨by rfl, ?y1099⟩) hHeld ?t1099
  case y1099 => (intro wx hSw; go_simp <;> with_reducible rfl)
  simp only [Act.put, List.setIfInBounds_toArray, List.set_cons_zero, List.set_cons_succ]
  refine take_at (i := 10) (v := ?v1100) rfl (by kernel_rfl) (by kernel_rfl) (by kernel_rfl) (fun _ _ _ h => h) (Or.inl ⟨by rfl, ?y1100⟩) hHeld ?t1100
  case y1100 => (intro wx hSw; go_simp <;> with_reducible rfl)
  simp only [Act.put, List.setIfInBounds_toArray, List.set_cons_zero, List.set_cons_succ]
  refine take_at (i := 11) (v := ?v1101) rfl (by kernel_rfl) (by kernel_rfl) (by kernel_rfl) (fun _ _ _ h => h) (Or.inl ⟨by rfl, ?y1101⟩) hHeld ?t1101
  case y1101 => (intro wx hSw; go_simp <;> with_reducible rfl)
  simp only [Act.put, List.setIfInBounds_toArray, List.set_cons_zero, List.set_cons_succ]
  refine take_at (i := 12) (v := ?v1102) rfl (by kernel_rfl) (by kernel_rfl) (by kernel_rfl) (fun _ _ _ h => h) (Or.inl ⟨by rfl, ?y1102⟩) hHeld ?t1102
  case y1102 => (intro wx hSw; have hc0 : wx.cell? ⟨w.heap.size, 0, none⟩ = some (.int .i64 p.1) := hSw.2.c 0 (of_decide_eq_true rfl); go_simp <;> with_reducible rfl)
  simp only [Act.put, List.setIfInBounds_toArray, List.set_cons_zero, List.set_cons_succ]
  refine take_at (i := 14) (v := ?v1103) rfl (by kernel_rfl) (by kernel_rfl) (by kernel_rfl) (fun _ _ _ h => h) (Or.inl ⟨by rfl, ?y1103⟩) hHeld ?t1103
  case y1103 => (intro wx hSw; go_simp <;> with_reducible rfl)
  simp only [Act.put, List.setIfInBounds_toArray, List.set_cons_zero, List.set_cons_succ]
  refine take_at (i := 15) (v := ?v1104) rfl (by kernel_rfl) (by kernel_rfl) (by kernel_rfl) (fun _ _ _ h => h) (Or.inl ⟨by rfl, ?y1104⟩) hHeld ?t1104
  case y1104 => (intro wx hSw; go_simp <;> with_reducible rfl)
  simp only [Act.put, List.setIfInBounds_toArray, List.set_cons_zero, List.set_cons_succ]
  refine take_at (i := 16) (v := ?v1105) rfl (by kernel_rfl) (by kernel_rfl) (by kernel_rfl) (fun _ _ _ h => h) (Or.inl ⟨by rfl, ?y1105⟩) hHeld ?t1105
  case y1105 => (intro wx hSw; go_simp <;> with_reducible rfl)
  simp only [Act.put, List.setIfInBounds_toArray, List.set_cons_zero, List.set_cons_succ]
  refine take_at (i := 17) (v := ?v1106) rfl (by kernel_rfl) (by kernel_rfl) (by kernel_rfl) (fun _ _ _ h => h) (Or.inl ⟨by rfl, ?y1106⟩) hHeld ?t1106
  case y1106 => (intro wx hSw; go_simp <;> with_reducible rfl)
  simp only [Act.put, List.setIfInBounds_toArray, List.set_cons_zero, List.set_cons_succ]
  refine take_at (i := 18) (v := ?v1107) rfl (by kernel_rfl) (by kernel_rfl) (by kernel_rfl) (fun _ _ _ h => h) (Or.inl ⟨by rfl, ?y1107⟩) hHeld ?t1107
  case y1107 => (intro wx hSw; have hc5 : wx.cell? ⟨w.heap.size + 1, 5, none⟩ = some (.int .i64 q.2.2.2.2.2.1) := hSw.1.c 5 (of_decide_eq_true rfl); go_simp <;> with_reducible rfl)
  simp only [Act.put, List.setIfInBounds_toArray, List.set_cons_zero, List.set_cons_succ]
  refine take_at (i := 19) (v := ?v1108) rfl (by kernel_rfl) (by kernel_rfl) (by kernel_rfl) (fun _ _ _ h => h) (Or.inl ⟨by rfl, ?y1108⟩) hHeld ?t1108
  case y1108 => (intro wx hSw; go_simp <;> with_reducible rfl)
  simp only [Act.put, List.setIfInBounds_toArray, List.set_cons_zero, List.set_cons_succ]
  refine take_at (i := 20) (v := ?v1109) rfl (by kernel_rfl) (by kernel_rfl) (by kernel_rfl) (fun _ _ _ h => h) (Or.inl ⟨by rfl, ?y1109⟩) hHeld ?t1109
  case y1109 => (intro wx hSw; go_simp <;> with_reducible rfl)
  simp only [Act.put, List.setIfInBounds_toArray, List.set_cons_zero, List.set_cons_succ]
  refine take_at (i := 21) (v := ?v1110) rfl (by kernel_rfl) (by kernel_rfl) (by kernel_rfl) (fun _ _ _ h => h) (Or.inl ⟨by rfl, ?y1110⟩) hHeld ?t1110
  case y1110 => (intro wx hSw; go_simp <;> with_reducible rfl)
  simp only [Act.put, List.setIfInBounds_toArray, List.set_cons_zero, List.set_cons_succ]
  refine take_at (i := 22) (v := ?v1111) rfl (by kernel_rfl) (by kernel_rfl) (by kernel_rfl) (fun _ _ _ h => h) (Or.inl ⟨by rfl, ?y1111⟩) hHeld ?t1111
  case y1111 => (intro wx hSw; have hc3 : wx.cell? ⟨w.heap.size, 3, none⟩ = some (.int .i64 p.2.2.2.1) := hSw.2.c 3 (of_decide_eq_true rfl); go_simp <;> with_reducible rfl)
  simp only [Act.put, List.setIfInBounds_toArray, List.set_cons_zero, List.set_cons_succ]
  refine take_at (i := 25) (v := ?v1112) rfl (by kernel_rfl) (by kernel_rfl) (by kernel_rfl) (fun _ _ _ h => h) (Or.inl ⟨by rfl, ?y1112⟩) hHeld ?t1112
  case y1112 => (intro wx hSw; go_simp <;> with_reducible rfl)
  simp only [Act.put, List.setIfInBounds_toArray, List.set_cons_zero, List.set_cons_succ]
  refine take_at (i := 26) (v := ?v1113) rfl (by kernel_rfl) (by kernel_rfl) (by kernel_rfl) (fun _ _ _ h => h) (Or.inl ⟨by rfl, ?y1113⟩) hHeld ?t1113
  case y1113 => (intro wx hSw; go_simp <;> with_reducible rfl)
  simp only [Act.put, List.setIfInBounds_toArray, List.set_cons_zero, List.set_cons_succ]
  refine take_at (i := 27) (v := ?v1114) rfl (by kernel_rfl) (by kernel_rfl) (by kernel_rfl) (fun _ _ _ h => h) (Or.inl ⟨by rfl, ?y1114⟩) hHeld ?t1114
  case y1114 => (intro wx hSw; go_simp <;> with_reducible rfl)
  simp only [Act.put, List.setIfInBounds_toArray, List.set_cons_zero, List.set_cons_succ]
  refine take_at (i := 28) (v := ?v1115) rfl (by kernel_rfl) (by kernel_rfl) (by kernel_rfl) (fun _ _ _ h => h) (Or.inl ⟨by rfl, ?y1115⟩) hHeld ?t1115
  case y1115 => (intro wx hSw; go_simp <;> with_reducible rfl)
  simp only [Act.put, List.setIfInBounds_toArray, List.set_cons_zero, List.set_cons_succ]
  refine take_at (i := 29) (v := ?v1116) rfl (by kernel_rfl) (by kernel_rfl) (by kernel_rfl) (fun _ _ _ h => h) (Or.inl ⟨by rfl, ?y1116⟩) hHeld ?t1116
  case y1116 => (intro wx hSw; have hc8 : wx.cell? ⟨w.heap.size + 1, 8, none⟩ = some (.int .i64 q.2.2.2.2.2.2.2.2) := hSw.1.c 8 (of_decide_eq_true rfl); go_simp <;> with_reducible rfl)
  simp only [Act.put, List.setIfInBounds_toArray, List.set_cons_zero, List.set_cons_succ]
  refine take_at (i := 30) (v := ?v1117) rfl (by kernel_rfl) (by kernel_rfl) (by kernel_rfl) (fun _ _ _ h => h) (Or.inl ⟨by rfl, ?y1117⟩) hHeld ?t1117
  case y1117 => (intro wx hSw; go_simp <;> with_reducible rfl)
  simp only [Act.put, List.setIfInBounds_toArray, List.set_cons_zero, List.set_cons_succ]
  refine take_at (i := 31) (v := ?v1118) rfl (by kernel_rfl) (by kernel_rfl) (by kernel_rfl) (fun _ _ _ h => h) (Or.inl ⟨by rfl, ?y1118⟩) hHeld ?t1118
  case y1118 => (intro wx hSw; go_simp <;> with_reducible rfl)
  simp only [Act.put, List.setIfInBounds_toArray, List.set_cons_zero, List.set_cons_succ]
  refine take_at (i := 32) (v := ?v1119) rfl (by kernel_rfl) (by kernel_rfl) (by kernel_rfl) (fun _ _ _ h => h) (Or.inl ⟨by rfl, ?y1119⟩) hHeld ?t1119
  case y1119 => (intro wx hSw; go_simp <;> with_reducible rfl)
  simp only [Act.put, List.setIfInBounds_toArray, List.set_cons_zero, List.set_cons_succ]
  refine take_at (i := 33) (v := ?v1120) rfl (by kernel_rfl) (by kernel_rfl) (by kernel_rfl) (fun _ _ _ h => h) (Or.inl ⟨by rfl, ?y1120⟩) hHeld ?t1120
  case y1120 => (intro wx hSw; have hc6 : wx.cell? ⟨w.heap.size, 6, none⟩ = some (.int .i64 p.2.2.2.2.2.2.1) := hSw.2.c 6 (of_decide_eq_true rfl); go_simp <;> with_reducible rfl)
  simp only [Act.put, List.setIfInBounds_toArray, List.set_cons_zero, List.set_cons_succ]
  refine take_at (i := 36) (v := ?v1121) rfl (by kernel_rfl) (by kernel_rfl) (by kernel_rfl) (fun _ _ _ h => h) (Or.inl ⟨by rfl, ?y1121⟩) hHeld ?t1121
  case y1121 => (intro wx hSw; go_simp <;> with_reducible rfl)
  simp only [Act.put, List.setIfInBounds_toArray, List.set_cons_zero, List.set_cons_succ]
  refine call_at (i := 13) (by kernel_rfl) rfl (fun K hK => ?_)
  go_simp
  refine (Mul_any b r35.2 q.2.2.1 p.1 _ BF_36.drew).mono ?_
  rintro e w37 ⟨rfl, f37, k37⟩
  generalize e37 : mulS r35.2 q.2.2.1 p.1 = r37 at f37 ⊢
  have E37 : Hid _ := e37
  clear e37
  have K37 : Kept b w w37 := Kept.trans K36.drew k37
  have B0_37 : Arr w.heap.size [.int .i64 p.1, .int .i64 p.2.1, .int .i64 p.2.2.1, .int .i64 p.2.2.2.1, .int .i64 p.2.2.2.2.1, .int .i64 p.2.2.2.2.2.1, .int .i64 p.2.2.2.2.2.2.1, .int .i64 p.2.2.2.2.2.2.2.1, .int .i64 p.2.2.2.2.2.2.2.2] w37 := B0_36.drew.kept k37 (by omega)
  have B1_37 : Arr (w.heap.size + 1) [.int .i64 q.1, .int .i64 q.2.1, .int .i64 q.2.2.1, .int .i64 q.2.2.2.1, .int .i64 q.2.2.2.2.1, .int .i64 q.2.2.2.2.2.1, .int .i64 q.2.2.2.2.2.2.1, .int .i64 q.2.2.2.2.2.2.2.1, .int .i64 q.2.2.2.2.2.2.2.2] w37 := B1_36.drew.kept k37 (by omega)
  have B2_37 : Arr (w.heap.size + 1 + 1) [.int .i64 r5.1, .int .i64 r11.1, .int .i64 r17.1, .int .i64 r23.1, .int .i64 r29.1, .int .i64 r35.1, .int .i64 0, .int .i64 0, .int .i64 0] w37 := B2_36.drew.kept k37 (by omega)
  have z37 := B2_37.lies
  clear hHeld
  refine hK.out _ _ ⟨B1_37, B0_37⟩ (fun hHeld => ?_)
  clear hK K K36 BF_36 B0_36 B1_36 B2_36 k37
  refine call_at (i := 23) (by kernel_rfl) rfl (fun K hK => ?_)
  go_simp
  refine (Mul_any b r37.2 q.2.2.2.2.2.1 p.2.2.2.1 _ f37).mono ?_
  rintro e w38 ⟨rfl, f38, k38⟩
  generalize e38 : mulS r37.2 q.2.2.2.2.2.1 p.2.2.2.1 = r38 at f38 ⊢
  have E38 : Hid _ := e38
  clear e38
  have K38 : Kept b w w38 := Kept.trans K37 k38
  have B0_38 : Arr w.heap.size [.int .i64 p.1, .int .i64 p.2.1, .int .i64 p.2.2.1, .int .i64 p.2.2.2.1, .int .i64 p.2.2.2.2.1, .int .i64 p.2.2.2.2.2.1, .int .i64 p.2.2.2.2.2.2.1, .int .i64 p.2.2.2.2.2.2.2.1, .int .i64 p.2.2.2.2.2.2.2.2] w38 := B0_37.kept k38 (by omega)
  have B1_38 : Arr (w.heap.size + 1) [.int .i64 q.1, .int .i64 q.2.1, .int .i64 q.2.2.1, .int .i64 q.2.2.2.1, .int .i64 q.2.2.2.2.1, .int .i64 q.2.2.2.2.2.1, .int .i64 q.2.2.2.2.2.2.1, .int .i64 q.2.2.2.2.2.2.2.1, .int .i64 q.2.2.2.2.2.2.2.2] w38 := B1_37.kept k38 (by omega)
  have B2_38 : Arr (w.heap.size + 1 + 1) [.int .i64 r5.1, .int .i64 r11.1, .int .i64 r17.1, .int .i64 r23.1, .int .i64 r29.1, .int .i64 r35.1, .int .i64 0, .int .i64 0, .int .i64 0] w38 := B2_37.kept k38 (by omega)
  have z38 := B2_38.lies
  clear hHeld
  refine hK.out _ _ ⟨B1_38, B0_38⟩ (fun hHeld => ?_)
  clear hK K K37 f37 B0_37 B1_37 B2_37 k38
  refine call_at (i := 24) (by kernel_rfl) rfl (fun K hK => ?_)
  go_simp
  refine (Add_any b r38.2 r37.1 r38.1 _ f38).mono ?_
  rintro e w39 ⟨rfl, f39, k39⟩
  generalize e39 : addS r38.2 r37.1 r38.1 = r39 at f39 ⊢
  have E39 : Hid _ := e39
  clear e39
  have K39 : Kept b w w39 := Kept.trans K38 k39
  have B0_39 : Arr w.heap.size [.int .i64 p.1, .int .i64 p.2.1, .int .i64 p.2.2.1, .int .i64 p.2.2.2.1, .int .i64 p.2.2.2.2.1, .int .i64 p.2.2.2.2.2.1, .int .i64 p.2.2.2.2.2.2.1, .int .i64 p.2.2.2.2.2.2.2.1, .int .i64 p.2.2.2.2.2.2.2.2] w39 := B0_38.kept k39 (by omega)
  have B1_39 : Arr (w.heap.size + 1) [.int .i64 q.1, .int .i64 q.2.1, .int .i64 q.2.2.1, .int .i64 q.2.2.2.1, .int .i64 q.2.2.2.2.1, .int .i64 q.2.2.2.2.2.1, .int .i64 q.2.2.2.2.2.2.1, .int .i64 q.2.2.2.2.2.2.2.1, .int .i64 q.2.2.2.2.2.2.2.2] w39 := B1_38.kept k39 (by omega)
  have B2_39 : Arr (w.heap.size + 1 + 1) [.int .i64 r5.1, .int .i64 r11.1, .int .i64 r17.1, .int .i64 r23.1, .int .i64 r29.1, .int .i64 r35.1, .int .i64 0, .int .i64 0, .int .i64 0] w39 := B2_38.kept k39 (by omega)
  have z39 := B2_39.lies
  clear hHeld
  refine hK.out _ _ ⟨B1_39, B0_39⟩ (fun hHeld => ?_)
  clear hK K K38 f38 B0_38 B1_38 B2_38 k39
  refine call_at (i := 34) (by kernel_rfl) rfl (fun K hK => ?_)
  go_simp
  refine (Mul_any b r39.2 q.2.2.2.2.2.2.2.2 p.2.2.2.2.2.2.1 _ f39).mono ?_
  rintro e w40 ⟨rfl, f40, k40⟩
  generalize e40 : mulS r39.2 q.2.2.2.2.2.2.2.2 p.2.2.2.2.2.2.1 = r40 at f40 ⊢
  have E40 : Hid _ := e40
  clear e40
  have K40 : Kept b w w40 := Kept.trans K39 k40
  have B0_40 : Arr w.heap.size [.int .i64 p.1, .int .i64 p.2.1, .int .i64 p.2.2.1, .int .i64 p.2.2.2.1, .int .i64 p.2.2.2.2.1, .int .i64 p.2.2.2.2.2.1, .int .i64 p.2.2.2.2.2.2.1, .int .i64 p.2.2.2.2.2.2.2.1, .int .i64 p.2.2.2.2.2.2.2.2] w40 := B0_39.kept k40 (by omega)
  have B1_40 : Arr (w.heap.size + 1) [.int .i64 q.1, .int .i64 q.2.1, .int .i64 q.2.2.1, .int .i64 q.2.2.2.1, .int .i64 q.2.2.2.2.1, .int .i64 q.2.2.2.2.2.1, .int .i64 q.2.2.2.2.2.2.1, .int .i64 q.2.2.2.2.2.2.2.1, .int .i64 q.2.2.2.2.2.2.2.2] w40 := B1_39.kept k40 (by omega)
  have B2_40 : Arr (w.heap.size + 1 + 1) [.int .i64 r5.1, .int .i64 r11.1, .int .i64 r17.1, .int .i64 r23.1, .int .i64 r29.1, .int .i64 r35.1, .int .i64 0, .int .i64 0, .int .i64 0] w40 := B2_39.kept k40 (by omega)
  have z40 := B2_40.lies
  clear hHeld
  refine hK.out _ _ ⟨B1_40, B0_40⟩ (fun hHeld => ?_)
  clear hK K K39 f39 B0_39 B1_39 B2_39 k40
  refine call_at (i := 35) (by kernel_rfl) rfl (fun K hK => ?_)
  go_simp
  refine (Add_any b r40.2 r39.1 r40.1 _ f40).mono ?_
  rintro e w41 ⟨rfl, f41, k41⟩
  generalize e41 : addS r40.2 r39.1 r40.1 = r41 at f41 ⊢
  have E41 : Hid _ := e41
  clear e41
  have K41 : Kept b w w41 := Kept.trans K40 k41
  have B0_41 : Arr w.heap.size [.int .i64 p.1, .int .i64 p.2.1, .int .i64 p.2.2.1, .int .i64 p.2.2.2.1, .int .i64 p.2.2.2.2.1, .int .i64 p.2.2.2.2.2.1, .int .i64 p.2.2.2.2.2.2.1, .int .i64 p.2.2.2.2.2.2.2.1, .int .i64 p.2.2.2.2.2.2.2.2] w41 := B0_40.kept k41 (by omega)
  have B1_41 : Arr (w.heap.size + 1) [.int .i64 q.1, .int .i64 q.2.1, .int .i64 q.2.2.1, .int .i64 q.2.2.2.1, .int .i64 q.2.2.2.2.1, .int .i64 q.2.2.2.2.2.1, .int .i64 q.2.2.2.2.2.2.1, .int .i64 q.2.2.2.2.2.2.2.1, .int .i64 q.2.2.2.2.2.2.2.2] w41 := B1_40.kept k41 (by omega)
  have B2_41 : Arr (w.heap.size + 1 + 1) [.int .i64 r5.1, .int .i64 r11.1, .int .i64 r17.1, .int .i64 r23.1, .int .i64 r29.1, .int .i64 r35.1, .int .i64 0, .int .i64 0, .int .i64 0] w41 := B2_40.kept k41 (by omega)
  have z41 := B2_41.lies
  clear hHeld
  refine hK.out _ _ ⟨B1_41, B0_41⟩ (fun hHeld => ?_)
  clear hK K K40 f40 B0_40 B1_40 B2_40 k41
  refine take_at (i := 37) (v := ?v1122) rfl (by kernel_rfl) (by kernel_rfl) (by kernel_rfl) (fun _ _ _ h => h) (Or.inl ⟨by rfl, ?y1122⟩) hHeld ?t1122
  case y1122 => (intro wx hSw; go_simp <;> with_reducible rfl)
  simp only [Act.put, List.setIfInBounds_toArray, List.set_cons_zero, List.set_cons_succ]
  refine call_at (i := 38) (by kernel_rfl) rfl (fun K hK => ?_)
  have c26_B2_6 : w41.cell? ⟨w.heap.size + 1 + 1, 6, none⟩ = some (.int .i64 0) := B2_41.c 6 (of_decide_eq_true rfl)
  have g26_B2_6 := B2_41.f 6 (of_decide_eq_true rfl)
  go_simp
  clear hHeld
  refine hK.out _ _ ⟨(B1_41.new (w.heap.size + 1 + 1) 6 (by omega) (.int .i64 r41.1)), (B0_41.new (w.heap.size + 1 + 1) 6 (by omega) (.int .i64 r41.1))⟩ (fun hHeld => ?_)
  clear hK K c26_B2_6 g26_B2_6
  refine wpAnyH_done (by kernel_rfl) ?_ _
  clear hHeld
  have P41 : Hid (plS r35.2 q.2.2.1 p.1 q.2.2.2.2.2.1 p.2.2.2.1 q.2.2.2.2.2.2.2.2 p.2.2.2.2.2.2.1 = r41) := by show _ = _; unfold plS; simp only [E37.out, E38.out, E39.out, E40.out, E41.out]
  clear E37 E38 E39 E40 E41
  go_wp2_with fail
  refine rounds_letter (S := fun w' => Kept b w w' ∧ Fl b r41.2 w' ∧ Arr w.heap.size [.int .i64 p.1, .int .i64 p.2.1, .int .i64 p.2.2.1, .int .i64 p.2.2.2.1, .int .i64 p.2.2.2.2.1, .int .i64 p.2.2.2.2.2.1, .int .i64 p.2.2.2.2.2.2.1, .int .i64 p.2.2.2.2.2.2.2.1, .int .i64 p.2.2.2.2.2.2.2.2] w' ∧ Arr (w.heap.size + 1) [.int .i64 q.1, .int .i64 q.2.1, .int .i64 q.2.2.1, .int .i64 q.2.2.2.1, .int .i64 q.2.2.2.2.1, .int .i64 q.2.2.2.2.2.1, .int .i64 q.2.2.2.2.2.2.1, .int .i64 q.2.2.2.2.2.2.2.1, .int .i64 q.2.2.2.2.2.2.2.2] w' ∧ Arr (w.heap.size + 1 + 1) [.int .i64 r5.1, .int .i64 r11.1, .int .i64 r17.1, .int .i64 r23.1, .int .i64 r29.1, .int .i64 r35.1, .int .i64 r41.1, .int .i64 0, .int .i64 0] w') ⟨(K41.new _ _ (by omega) _), (f41.new (w.heap.size + 1 + 1) 6 (by omega) (.int .i64 r41.1)), (B0_41.new (w.heap.size + 1 + 1) 6 (by omega) (.int .i64 r41.1)), (B1_41.new (w.heap.size + 1 + 1) 6 (by omega) (.int .i64 r41.1)), (B2_41.put 6 (of_decide_eq_true rfl) (.int .i64 r41.1) [.int .i64 r5.1, .int .i64 r11.1, .int .i64 r17.1, .int .i64 r23.1, .int .i64 r29.1, .int .i64 r35.1, .int .i64 r41.1, .int .i64 0, .int .i64 0] rfl)⟩ ?_
  rintro w42 ⟨K42, BF_42, B0_42, B1_42, B2_42⟩
  have z42 := B2_42.lies
  clear K41 f41 B0_41 B1_41 B2_41
  rw [rounds_succ]
  go_wp2_with fail
  refine wp_region_held_drew (S := fun w' => Arr (w.heap.size + 1) [.int .i64 q.1, .int .i64 q.2.1, .int .i64 q.2.2.1, .int .i64 q.2.2.2.1, .int .i64 q.2.2.2.2.1, .int .i64 q.2.2.2.2.2.1, .int .i64 q.2.2.2.2.2.2.1, .int .i64 q.2.2.2.2.2.2.2.1, .int .i64 q.2.2.2.2.2.2.2.2] w' ∧ Arr w.heap.size [.int .i64 p.1, .int .i64 p.2.1, .int .i64 p.2.2.1, .int .i64 p.2.2.2.1, .int .i64 p.2.2.2.2.1, .int .i64 p.2.2.2.2.2.1, .int .i64 p.2.2.2.2.2.2.1, .int .i64 p.2.2.2.2.2.2.2.1, .int .i64 p.2.2.2.2.2.2.2.2] w') (by kernel_rfl) ⟨B1_42.drew, B0_42.drew⟩ (fun hHeld => ?_)
  refine take_at (i := 0) (v := ?v1123) rfl (by kernel_rfl) (by kernel_rfl) (by kernel_rfl) (fun _ _ _ h => h) (Or.inl ⟨by rfl, ?y1123⟩) hHeld ?t1123
  case y1123 => (intro wx hSw; go_simp <;> with_reducible rfl)
  simp only [Act.put, List.setIfInBounds_toArray, List.set_cons_zero, List.set_cons_succ]
  refine take_at (i := 1) (v := ?v1124) rfl (by kernel_rfl) (by kernel_rfl) (by kernel_rfl) (fun _ _ _ h => h) (Or.inl ⟨by rfl, ?y1124⟩) hHeld ?t1124
  case y1124 => (intro wx hSw; go_simp <;> with_reducible rfl)
  simp only [Act.put, List.setIfInBounds_toArray, List.set_cons_zero, List.set_cons_succ]
  refine take_at (i := 2) (v := ?v1125) rfl (by kernel_rfl) (by kernel_rfl) (by kernel_rfl) (fun _ _ _ h => h) (Or.inl ⟨by rfl, ?y1125⟩) hHeld ?t1125
  case y1125 => (intro wx hSw; go_simp <;> with_reducible rfl)
  simp only [Act.put, List.setIfInBounds_toArray, List.set_cons_zero, List.set_cons_succ]
  refine take_at (i := 3) (v := ?v1126) rfl (by kernel_rfl) (by kernel_rfl) (by kernel_rfl) (fun _ _ _ h => h) (Or.inl ⟨by rfl, ?y1126⟩) hHeld ?t1126
  case y1126 => (intro wx hSw; go_simp <;> with_reducible rfl)
  simp only [Act.put, List.setIfInBounds_toArray, List.set_cons_zero, List.set_cons_succ]
  refine take_at (i := 4) (v := ?v1127) rfl (by kernel_rfl) (by kernel_rfl) (by kernel_rfl) (fun _ _ _ h => h) (Or.inl ⟨by rfl, ?y1127⟩) hHeld ?t1127
  case y1127 => (intro wx hSw; go_simp <;> with_reducible rfl)
  simp only [Act.put, List.setIfInBounds_toArray, List.set_cons_zero, List.set_cons_succ]
  refine take_at (i := 5) (v := ?v1128) rfl (by kernel_rfl) (by kernel_rfl) (by kernel_rfl) (fun _ _ _ h => h) (Or.inl ⟨by rfl, ?y1128⟩) hHeld ?t1128
  case y1128 => (intro wx hSw; go_simp <;> with_reducible rfl)
  simp only [Act.put, List.setIfInBounds_toArray, List.set_cons_zero, List.set_cons_succ]
  refine take_at (i := 6) (v := ?v1129) rfl (by kernel_rfl) (by kernel_rfl) (by kernel_rfl) (fun _ _ _ h => h) (Or.inl ⟨by rfl, ?y1129⟩) hHeld ?t1129
  case y1129 => (intro wx hSw; go_simp <;> with_reducible rfl)
  simp only [Act.put, List.setIfInBounds_toArray, List.set_cons_zero, List.set_cons_succ]
  refine take_at (i := 7) (v := ?v1130) rfl (by kernel_rfl) (by kernel_rfl) (by kernel_rfl) (fun _ _ _ h => h) (Or.inl ⟨by rfl, ?y1130⟩) hHeld ?t1130
  case y1130 => (intro wx hSw; go_simp <;> with_reducible rfl)
  simp only [Act.put, List.setIfInBounds_toArray, List.set_cons_zero, List.set_cons_succ]
  refine take_at (i := 8) (v := ?v1131) rfl (by kernel_rfl) (by kernel_rfl) (by kernel_rfl) (fun _ _ _ h => h) (Or.inl ⟨by rfl, ?y1131⟩) hHeld ?t1131
  case y1131 => (intro wx hSw; have hc2 : wx.cell? ⟨w.heap.size + 1, 2, none⟩ = some (.int .i64 q.2.2.1) := hSw.1.c 2 (of_decide_eq_true rfl); go_simp <;> with_reducible rfl)
  simp only [Act.put, List.setIfInBounds_toArray, List.set_cons_zero, List.set_cons_succ]
  refine take_at (i := 9) (v := ?v1132) rfl (by kernel_rfl) (by kernel_rfl) (by kernel_rfl) (fun _ _ _ h => h) (Or.inl ⟨by rfl, ?y1132⟩) hHeld ?t1132
  case y1132 => (intro wx hSw; go_simp <;> with_reducible rfl)
  simp only [Act.put, List.setIfInBounds_toArray, List.set_cons_zero, List.set_cons_succ]
  refine take_at (i := 10) (v := ?v1133) rfl (by kernel_rfl) (by kernel_rfl) (by kernel_rfl) (fun _ _ _ h => h) (Or.inl ⟨by rfl, ?y1133⟩) hHeld ?t1133
  case y1133 => (intro wx hSw; go_simp <;> with_reducible rfl)
  simp only [Act.put, List.setIfInBounds_toArray, List.set_cons_zero, List.set_cons_succ]
  refine take_at (i := 11) (v := ?v1134) rfl (by kernel_rfl) (by kernel_rfl) (by kernel_rfl) (fun _ _ _ h => h) (Or.inl ⟨by rfl, ?y1134⟩) hHeld ?t1134
  case y1134 => (intro wx hSw; go_simp <;> with_reducible rfl)
  simp only [Act.put, List.setIfInBounds_toArray, List.set_cons_zero, List.set_cons_succ]
  refine take_at (i := 12) (v := ?v1135) rfl (by kernel_rfl) (by kernel_rfl) (by kernel_rfl) (fun _ _ _ h => h) (Or.inl ⟨by rfl, ?y1135⟩) hHeld ?t1135
  case y1135 => (intro wx hSw; have hc1 : wx.cell? ⟨w.heap.size, 1, none⟩ = some (.int .i64 p.2.1) := hSw.2.c 1 (of_decide_eq_true rfl); go_simp <;> with_reducible rfl)
  simp only [Act.put, List.setIfInBounds_toArray, List.set_cons_zero, List.set_cons_succ]
  refine take_at (i := 14) (v := ?v1136) rfl (by kernel_rfl) (by kernel_rfl) (by kernel_rfl) (fun _ _ _ h => h) (Or.inl ⟨by rfl, ?y1136⟩) hHeld ?t1136
  case y1136 => (intro wx hSw; go_simp <;> with_reducible rfl)
  simp only [Act.put, List.setIfInBounds_toArray, List.set_cons_zero, List.set_cons_succ]
  refine take_at (i := 15) (v := ?v1137) rfl (by kernel_rfl) (by kernel_rfl) (by kernel_rfl) (fun _ _ _ h => h) (Or.inl ⟨by rfl, ?y1137⟩) hHeld ?t1137
  case y1137 => (intro wx hSw; go_simp <;> with_reducible rfl)
  simp only [Act.put, List.setIfInBounds_toArray, List.set_cons_zero, List.set_cons_succ]
  refine take_at (i := 16) (v := ?v1138) rfl (by kernel_rfl) (by kernel_rfl) (by kernel_rfl) (fun _ _ _ h => h) (Or.inl ⟨by rfl, ?y1138⟩) hHeld ?t1138
  case y1138 => (intro wx hSw; go_simp <;> with_reducible rfl)
  simp only [Act.put, List.setIfInBounds_toArray, List.set_cons_zero, List.set_cons_succ]
  refine take_at (i := 17) (v := ?v1139) rfl (by kernel_rfl) (by kernel_rfl) (by kernel_rfl) (fun _ _ _ h => h) (Or.inl ⟨by rfl, ?y1139⟩) hHeld ?t1139
  case y1139 => (intro wx hSw; go_simp <;> with_reducible rfl)
  simp only [Act.put, List.setIfInBounds_toArray, List.set_cons_zero, List.set_cons_succ]
  refine take_at (i := 18) (v := ?v1140) rfl (by kernel_rfl) (by kernel_rfl) (by kernel_rfl) (fun _ _ _ h => h) (Or.inl ⟨by rfl, ?y1140⟩) hHeld ?t1140
  case y1140 => (intro wx hSw; have hc5 : wx.cell? ⟨w.heap.size + 1, 5, none⟩ = some (.int .i64 q.2.2.2.2.2.1) := hSw.1.c 5 (of_decide_eq_true rfl); go_simp <;> with_reducible rfl)
  simp only [Act.put, List.setIfInBounds_toArray, List.set_cons_zero, List.set_cons_succ]
  refine take_at (i := 19) (v := ?v1141) rfl (by kernel_rfl) (by kernel_rfl) (by kernel_rfl) (fun _ _ _ h => h) (Or.inl ⟨by rfl, ?y1141⟩) hHeld ?t1141
  case y1141 => (intro wx hSw; go_simp <;> with_reducible rfl)
  simp only [Act.put, List.setIfInBounds_toArray, List.set_cons_zero, List.set_cons_succ]
  refine take_at (i := 20) (v := ?v1142) rfl (by kernel_rfl) (by kernel_rfl) (by kernel_rfl) (fun _ _ _ h => h) (Or.inl ⟨by rfl, ?y1142⟩) hHeld ?t1142
  case y1142 => (intro wx hSw; go_simp <;> with_reducible rfl)
  simp only [Act.put, List.setIfInBounds_toArray, List.set_cons_zero, List.set_cons_succ]
  refine take_at (i := 21) (v := ?v1143) rfl (by kernel_rfl) (by kernel_rfl) (by kernel_rfl) (fun _ _ _ h => h) (Or.inl ⟨by rfl, ?y1143⟩) hHeld ?t1143
  case y1143 => (intro wx hSw; go_simp <;> with_reducible rfl)
  simp only [Act.put, List.setIfInBounds_toArray, List.set_cons_zero, List.set_cons_succ]
  refine take_at (i := 22) (v := ?v1144) rfl (by kernel_rfl) (by kernel_rfl) (by kernel_rfl) (fun _ _ _ h => h) (Or.inl ⟨by rfl, ?y1144⟩) hHeld ?t1144
  case y1144 => (intro wx hSw; have hc4 : wx.cell? ⟨w.heap.size, 4, none⟩ = some (.int .i64 p.2.2.2.2.1) := hSw.2.c 4 (of_decide_eq_true rfl); go_simp <;> with_reducible rfl)
  simp only [Act.put, List.setIfInBounds_toArray, List.set_cons_zero, List.set_cons_succ]
  refine take_at (i := 25) (v := ?v1145) rfl (by kernel_rfl) (by kernel_rfl) (by kernel_rfl) (fun _ _ _ h => h) (Or.inl ⟨by rfl, ?y1145⟩) hHeld ?t1145
  case y1145 => (intro wx hSw; go_simp <;> with_reducible rfl)
  simp only [Act.put, List.setIfInBounds_toArray, List.set_cons_zero, List.set_cons_succ]
  refine take_at (i := 26) (v := ?v1146) rfl (by kernel_rfl) (by kernel_rfl) (by kernel_rfl) (fun _ _ _ h => h) (Or.inl ⟨by rfl, ?y1146⟩) hHeld ?t1146
  case y1146 => (intro wx hSw; go_simp <;> with_reducible rfl)
  simp only [Act.put, List.setIfInBounds_toArray, List.set_cons_zero, List.set_cons_succ]
  refine take_at (i := 27) (v := ?v1147) rfl (by kernel_rfl) (by kernel_rfl) (by kernel_rfl) (fun _ _ _ h => h) (Or.inl ⟨by rfl, ?y1147⟩) hHeld ?t1147
  case y1147 => (intro wx hSw; go_simp <;> with_reducible rfl)
  simp only [Act.put, List.setIfInBounds_toArray, List.set_cons_zero, List.set_cons_succ]
  refine take_at (i := 28) (v := ?v1148) rfl (by kernel_rfl) (by kernel_rfl) (by kernel_rfl) (fun _ _ _ h => h) (Or.inl ⟨by rfl, ?y1148⟩) hHeld ?t1148
  case y1148 => (intro wx hSw; go_simp <;> with_reducible rfl)
  simp only [Act.put, List.setIfInBounds_toArray, List.set_cons_zero, List.set_cons_succ]
  refine take_at (i := 29) (v := ?v1149) rfl (by kernel_rfl) (by kernel_rfl) (by kernel_rfl) (fun _ _ _ h => h) (Or.inl ⟨by rfl, ?y1149⟩) hHeld ?t1149
  case y1149 => (intro wx hSw; have hc8 : wx.cell? ⟨w.heap.size + 1, 8, none⟩ = some (.int .i64 q.2.2.2.2.2.2.2.2) := hSw.1.c 8 (of_decide_eq_true rfl); go_simp <;> with_reducible rfl)
  simp only [Act.put, List.setIfInBounds_toArray, List.set_cons_zero, List.set_cons_succ]
  refine take_at (i := 30) (v := ?v1150) rfl (by kernel_rfl) (by kernel_rfl) (by kernel_rfl) (fun _ _ _ h => h) (Or.inl ⟨by rfl, ?y1150⟩) hHeld ?t1150
  case y1150 => (intro wx hSw; go_simp <;> with_reducible rfl)
  simp only [Act.put, List.setIfInBounds_toArray, List.set_cons_zero, List.set_cons_succ]
  refine take_at (i := 31) (v := ?v1151) rfl (by kernel_rfl) (by kernel_rfl) (by kernel_rfl) (fun _ _ _ h => h) (Or.inl ⟨by rfl, ?y1151⟩) hHeld ?t1151
  case y1151 => (intro wx hSw; go_simp <;> with_reducible rfl)
  simp only [Act.put, List.setIfInBounds_toArray, List.set_cons_zero, List.set_cons_succ]
  refine take_at (i := 32) (v := ?v1152) rfl (by kernel_rfl) (by kernel_rfl) (by kernel_rfl) (fun _ _ _ h => h) (Or.inl ⟨by rfl, ?y1152⟩) hHeld ?t1152
  case y1152 => (intro wx hSw; go_simp <;> with_reducible rfl)
  simp only [Act.put, List.setIfInBounds_toArray, List.set_cons_zero, List.set_cons_succ]
  refine take_at (i := 33) (v := ?v1153) rfl (by kernel_rfl) (by kernel_rfl) (by kernel_rfl) (fun _ _ _ h => h) (Or.inl ⟨by rfl, ?y1153⟩) hHeld ?t1153
  case y1153 => (intro wx hSw; have hc7 : wx.cell? ⟨w.heap.size, 7, none⟩ = some (.int .i64 p.2.2.2.2.2.2.2.1) := hSw.2.c 7 (of_decide_eq_true rfl); go_simp <;> with_reducible rfl)
  simp only [Act.put, List.setIfInBounds_toArray, List.set_cons_zero, List.set_cons_succ]
  refine take_at (i := 36) (v := ?v1154) rfl (by kernel_rfl) (by kernel_rfl) (by kernel_rfl) (fun _ _ _ h => h) (Or.inl ⟨by rfl, ?y1154⟩) hHeld ?t1154
  case y1154 => (intro wx hSw; go_simp <;> with_reducible rfl)
  simp only [Act.put, List.setIfInBounds_toArray, List.set_cons_zero, List.set_cons_succ]
  refine call_at (i := 13) (by kernel_rfl) rfl (fun K hK => ?_)
  go_simp
  refine (Mul_any b r41.2 q.2.2.1 p.2.1 _ BF_42.drew).mono ?_
  rintro e w43 ⟨rfl, f43, k43⟩
  generalize e43 : mulS r41.2 q.2.2.1 p.2.1 = r43 at f43 ⊢
  have E43 : Hid _ := e43
  clear e43
  have K43 : Kept b w w43 := Kept.trans K42.drew k43
  have B0_43 : Arr w.heap.size [.int .i64 p.1, .int .i64 p.2.1, .int .i64 p.2.2.1, .int .i64 p.2.2.2.1, .int .i64 p.2.2.2.2.1, .int .i64 p.2.2.2.2.2.1, .int .i64 p.2.2.2.2.2.2.1, .int .i64 p.2.2.2.2.2.2.2.1, .int .i64 p.2.2.2.2.2.2.2.2] w43 := B0_42.drew.kept k43 (by omega)
  have B1_43 : Arr (w.heap.size + 1) [.int .i64 q.1, .int .i64 q.2.1, .int .i64 q.2.2.1, .int .i64 q.2.2.2.1, .int .i64 q.2.2.2.2.1, .int .i64 q.2.2.2.2.2.1, .int .i64 q.2.2.2.2.2.2.1, .int .i64 q.2.2.2.2.2.2.2.1, .int .i64 q.2.2.2.2.2.2.2.2] w43 := B1_42.drew.kept k43 (by omega)
  have B2_43 : Arr (w.heap.size + 1 + 1) [.int .i64 r5.1, .int .i64 r11.1, .int .i64 r17.1, .int .i64 r23.1, .int .i64 r29.1, .int .i64 r35.1, .int .i64 r41.1, .int .i64 0, .int .i64 0] w43 := B2_42.drew.kept k43 (by omega)
  have z43 := B2_43.lies
  clear hHeld
  refine hK.out _ _ ⟨B1_43, B0_43⟩ (fun hHeld => ?_)
  clear hK K K42 BF_42 B0_42 B1_42 B2_42 k43
  refine call_at (i := 23) (by kernel_rfl) rfl (fun K hK => ?_)
  go_simp
  refine (Mul_any b r43.2 q.2.2.2.2.2.1 p.2.2.2.2.1 _ f43).mono ?_
  rintro e w44 ⟨rfl, f44, k44⟩
  generalize e44 : mulS r43.2 q.2.2.2.2.2.1 p.2.2.2.2.1 = r44 at f44 ⊢
  have E44 : Hid _ := e44
  clear e44
  have K44 : Kept b w w44 := Kept.trans K43 k44
  have B0_44 : Arr w.heap.size [.int .i64 p.1, .int .i64 p.2.1, .int .i64 p.2.2.1, .int .i64 p.2.2.2.1, .int .i64 p.2.2.2.2.1, .int .i64 p.2.2.2.2.2.1, .int .i64 p.2.2.2.2.2.2.1, .int .i64 p.2.2.2.2.2.2.2.1, .int .i64 p.2.2.2.2.2.2.2.2] w44 := B0_43.kept k44 (by omega)
  have B1_44 : Arr (w.heap.size + 1) [.int .i64 q.1, .int .i64 q.2.1, .int .i64 q.2.2.1, .int .i64 q.2.2.2.1, .int .i64 q.2.2.2.2.1, .int .i64 q.2.2.2.2.2.1, .int .i64 q.2.2.2.2.2.2.1, .int .i64 q.2.2.2.2.2.2.2.1, .int .i64 q.2.2.2.2.2.2.2.2] w44 := B1_43.kept k44 (by omega)
  have B2_44 : Arr (w.heap.size + 1 + 1) [.int .i64 r5.1, .int .i64 r11.1, .int .i64 r17.1, .int .i64 r23.1, .int .i64 r29.1, .int .i64 r35.1, .int .i64 r41.1, .int .i64 0, .int .i64 0] w44 := B2_43.kept k44 (by omega)
  have z44 := B2_44.lies
  clear hHeld
  refine hK.out _ _ ⟨B1_44, B0_44⟩ (fun hHeld => ?_)
  clear hK K K43 f43 B0_43 B1_43 B2_43 k44
  refine call_at (i := 24) (by kernel_rfl) rfl (fun K hK => ?_)
  go_simp
  refine (Add_any b r44.2 r43.1 r44.1 _ f44).mono ?_
  rintro e w45 ⟨rfl, f45, k45⟩
  generalize e45 : addS r44.2 r43.1 r44.1 = r45 at f45 ⊢
  have E45 : Hid _ := e45
  clear e45
  have K45 : Kept b w w45 := Kept.trans K44 k45
  have B0_45 : Arr w.heap.size [.int .i64 p.1, .int .i64 p.2.1, .int .i64 p.2.2.1, .int .i64 p.2.2.2.1, .int .i64 p.2.2.2.2.1, .int .i64 p.2.2.2.2.2.1, .int .i64 p.2.2.2.2.2.2.1, .int .i64 p.2.2.2.2.2.2.2.1, .int .i64 p.2.2.2.2.2.2.2.2] w45 := B0_44.kept k45 (by omega)
  have B1_45 : Arr (w.heap.size + 1) [.int .i64 q.1, .int .i64 q.2.1, .int .i64 q.2.2.1, .int .i64 q.2.2.2.1, .int .i64 q.2.2.2.2.1, .int .i64 q.2.2.2.2.2.1, .int .i64 q.2.2.2.2.2.2.1, .int .i64 q.2.2.2.2.2.2.2.1, .int .i64 q.2.2.2.2.2.2.2.2] w45 := B1_44.kept k45 (by omega)
  have B2_45 : Arr (w.heap.size + 1 + 1) [.int .i64 r5.1, .int .i64 r11.1, .int .i64 r17.1, .int .i64 r23.1, .int .i64 r29.1, .int .i64 r35.1, .int .i64 r41.1, .int .i64 0, .int .i64 0] w45 := B2_44.kept k45 (by omega)
  have z45 := B2_45.lies
  clear hHeld
  refine hK.out _ _ ⟨B1_45, B0_45⟩ (fun hHeld => ?_)
  clear hK K K44 f44 B0_44 B1_44 B2_44 k45
  refine call_at (i := 34) (by kernel_rfl) rfl (fun K hK => ?_)
  go_simp
  refine (Mul_any b r45.2 q.2.2.2.2.2.2.2.2 p.2.2.2.2.2.2.2.1 _ f45).mono ?_
  rintro e w46 ⟨rfl, f46, k46⟩
  generalize e46 : mulS r45.2 q.2.2.2.2.2.2.2.2 p.2.2.2.2.2.2.2.1 = r46 at f46 ⊢
  have E46 : Hid _ := e46
  clear e46
  have K46 : Kept b w w46 := Kept.trans K45 k46
  have B0_46 : Arr w.heap.size [.int .i64 p.1, .int .i64 p.2.1, .int .i64 p.2.2.1, .int .i64 p.2.2.2.1, .int .i64 p.2.2.2.2.1, .int .i64 p.2.2.2.2.2.1, .int .i64 p.2.2.2.2.2.2.1, .int .i64 p.2.2.2.2.2.2.2.1, .int .i64 p.2.2.2.2.2.2.2.2] w46 := B0_45.kept k46 (by omega)
  have B1_46 : Arr (w.heap.size + 1) [.int .i64 q.1, .int .i64 q.2.1, .int .i64 q.2.2.1, .int .i64 q.2.2.2.1, .int .i64 q.2.2.2.2.1, .int .i64 q.2.2.2.2.2.1, .int .i64 q.2.2.2.2.2.2.1, .int .i64 q.2.2.2.2.2.2.2.1, .int .i64 q.2.2.2.2.2.2.2.2] w46 := B1_45.kept k46 (by omega)
  have B2_46 : Arr (w.heap.size + 1 + 1) [.int .i64 r5.1, .int .i64 r11.1, .int .i64 r17.1, .int .i64 r23.1, .int .i64 r29.1, .int .i64 r35.1, .int .i64 r41.1, .int .i64 0, .int .i64 0] w46 := B2_45.kept k46 (by omega)
  have z46 := B2_46.lies
  clear hHeld
  refine hK.out _ _ ⟨B1_46, B0_46⟩ (fun hHeld => ?_)
  clear hK K K45 f45 B0_45 B1_45 B2_45 k46
  refine call_at (i := 35) (by kernel_rfl) rfl (fun K hK => ?_)
  go_simp
  refine (Add_any b r46.2 r45.1 r46.1 _ f46).mono ?_
  rintro e w47 ⟨rfl, f47, k47⟩
  generalize e47 : addS r46.2 r45.1 r46.1 = r47 at f47 ⊢
  have E47 : Hid _ := e47
  clear e47
  have K47 : Kept b w w47 := Kept.trans K46 k47
  have B0_47 : Arr w.heap.size [.int .i64 p.1, .int .i64 p.2.1, .int .i64 p.2.2.1, .int .i64 p.2.2.2.1, .int .i64 p.2.2.2.2.1, .int .i64 p.2.2.2.2.2.1, .int .i64 p.2.2.2.2.2.2.1, .int .i64 p.2.2.2.2.2.2.2.1, .int .i64 p.2.2.2.2.2.2.2.2] w47 := B0_46.kept k47 (by omega)
  have B1_47 : Arr (w.heap.size + 1) [.int .i64 q.1, .int .i64 q.2.1, .int .i64 q.2.2.1, .int .i64 q.2.2.2.1, .int .i64 q.2.2.2.2.1, .int .i64 q.2.2.2.2.2.1, .int .i64 q.2.2.2.2.2.2.1, .int .i64 q.2.2.2.2.2.2.2.1, .int .i64 q.2.2.2.2.2.2.2.2] w47 := B1_46.kept k47 (by omega)
  have B2_47 : Arr (w.heap.size + 1 + 1) [.int .i64 r5.1, .int .i64 r11.1, .int .i64 r17.1, .int .i64 r23.1, .int .i64 r29.1, .int .i64 r35.1, .int .i64 r41.1, .int .i64 0, .int .i64 0] w47 := B2_46.kept k47 (by omega)
  have z47 := B2_47.lies
  clear hHeld
  refine hK.out _ _ ⟨B1_47, B0_47⟩ (fun hHeld => ?_)
  clear hK K K46 f46 B0_46 B1_46 B2_46 k47
  refine take_at (i := 37) (v := ?v1155) rfl (by kernel_rfl) (by kernel_rfl) (by kernel_rfl) (fun _ _ _ h => h) (Or.inl ⟨by rfl, ?y1155⟩) hHeld ?t1155
  case y1155 => (intro wx hSw; go_simp <;> with_reducible rfl)
  simp only [Act.put, List.setIfInBounds_toArray, List.set_cons_zero, List.set_cons_succ]
  refine call_at (i := 38) (by kernel_rfl) rfl (fun K hK => ?_)
  have c29_B2_7 : w47.cell? ⟨w.heap.size + 1 + 1, 7, none⟩ = some (.int .i64 0) := B2_47.c 7 (of_decide_eq_true rfl)
  have g29_B2_7 := B2_47.f 7 (of_decide_eq_true rfl)
  go_simp
  clear hHeld
  refine hK.out _ _ ⟨(B1_47.new (w.heap.size + 1 + 1) 7 (by omega) (.int .i64 r47.1)), (B0_47.new (w.heap.size + 1 + 1) 7 (by omega) (.int .i64 r47.1))⟩ (fun hHeld => ?_)
  clear hK K c29_B2_7 g29_B2_7
  refine wpAnyH_done (by kernel_rfl) ?_ _
  clear hHeld
  have P47 : Hid (plS r41.2 q.2.2.1 p.2.1 q.2.2.2.2.2.1 p.2.2.2.2.1 q.2.2.2.2.2.2.2.2 p.2.2.2.2.2.2.2.1 = r47) := by show _ = _; unfold plS; simp only [E43.out, E44.out, E45.out, E46.out, E47.out]
  clear E43 E44 E45 E46 E47
  go_wp2_with fail
  refine rounds_letter (S := fun w' => Kept b w w' ∧ Fl b r47.2 w' ∧ Arr w.heap.size [.int .i64 p.1, .int .i64 p.2.1, .int .i64 p.2.2.1, .int .i64 p.2.2.2.1, .int .i64 p.2.2.2.2.1, .int .i64 p.2.2.2.2.2.1, .int .i64 p.2.2.2.2.2.2.1, .int .i64 p.2.2.2.2.2.2.2.1, .int .i64 p.2.2.2.2.2.2.2.2] w' ∧ Arr (w.heap.size + 1) [.int .i64 q.1, .int .i64 q.2.1, .int .i64 q.2.2.1, .int .i64 q.2.2.2.1, .int .i64 q.2.2.2.2.1, .int .i64 q.2.2.2.2.2.1, .int .i64 q.2.2.2.2.2.2.1, .int .i64 q.2.2.2.2.2.2.2.1, .int .i64 q.2.2.2.2.2.2.2.2] w' ∧ Arr (w.heap.size + 1 + 1) [.int .i64 r5.1, .int .i64 r11.1, .int .i64 r17.1, .int .i64 r23.1, .int .i64 r29.1, .int .i64 r35.1, .int .i64 r41.1, .int .i64 r47.1, .int .i64 0] w') ⟨(K47.new _ _ (by omega) _), (f47.new (w.heap.size + 1 + 1) 7 (by omega) (.int .i64 r47.1)), (B0_47.new (w.heap.size + 1 + 1) 7 (by omega) (.int .i64 r47.1)), (B1_47.new (w.heap.size + 1 + 1) 7 (by omega) (.int .i64 r47.1)), (B2_47.put 7 (of_decide_eq_true rfl) (.int .i64 r47.1) [.int .i64 r5.1, .int .i64 r11.1, .int .i64 r17.1, .int .i64 r23.1, .int .i64 r29.1, .int .i64 r35.1, .int .i64 r41.1, .int .i64 r47.1, .int .i64 0] rfl)⟩ ?_
  rintro w48 ⟨K48, BF_48, B0_48, B1_48, B2_48⟩
  have z48 := B2_48.lies
  clear K47 f47 B0_47 B1_47 B2_47
  rw [rounds_succ]
  go_wp2_with fail
  refine wp_region_held_drew (S := fun w' => Arr (w.heap.size + 1) [.int .i64 q.1, .int .i64 q.2.1, .int .i64 q.2.2.1, .int .i64 q.2.2.2.1, .int .i64 q.2.2.2.2.1, .int .i64 q.2.2.2.2.2.1, .int .i64 q.2.2.2.2.2.2.1, .int .i64 q.2.2.2.2.2.2.2.1, .int .i64 q.2.2.2.2.2.2.2.2] w' ∧ Arr w.heap.size [.int .i64 p.1, .int .i64 p.2.1, .int .i64 p.2.2.1, .int .i64 p.2.2.2.1, .int .i64 p.2.2.2.2.1, .int .i64 p.2.2.2.2.2.1, .int .i64 p.2.2.2.2.2.2.1, .int .i64 p.2.2.2.2.2.2.2.1, .int .i64 p.2.2.2.2.2.2.2.2] w') (by kernel_rfl) ⟨B1_48.drew, B0_48.drew⟩ (fun hHeld => ?_)
  refine take_at (i := 0) (v := ?v1156) rfl (by kernel_rfl) (by kernel_rfl) (by kernel_rfl) (fun _ _ _ h => h) (Or.inl ⟨by rfl, ?y1156⟩) hHeld ?t1156
  case y1156 => (intro wx hSw; go_simp <;> with_reducible rfl)
  simp only [Act.put, List.setIfInBounds_toArray, List.set_cons_zero, List.set_cons_succ]
  refine take_at (i := 1) (v := ?v1157) rfl (by kernel_rfl) (by kernel_rfl) (by kernel_rfl) (fun _ _ _ h => h) (Or.inl ⟨by rfl, ?y1157⟩) hHeld ?t1157
  case y1157 => (intro wx hSw; go_simp <;> with_reducible rfl)
  simp only [Act.put, List.setIfInBounds_toArray, List.set_cons_zero, List.set_cons_succ]
  refine take_at (i := 2) (v := ?v1158) rfl (by kernel_rfl) (by kernel_rfl) (by kernel_rfl) (fun _ _ _ h => h) (Or.inl ⟨by rfl, ?y1158⟩) hHeld ?t1158
  case y1158 => (intro wx hSw; go_simp <;> with_reducible rfl)
  simp only [Act.put, List.setIfInBounds_toArray, List.set_cons_zero, List.set_cons_succ]
  refine take_at (i := 3) (v := ?v1159) rfl (by kernel_rfl) (by kernel_rfl) (by kernel_rfl) (fun _ _ _ h => h) (Or.inl ⟨by rfl, ?y1159⟩) hHeld ?t1159
  case y1159 => (intro wx hSw; go_simp <;> with_reducible rfl)
  simp only [Act.put, List.setIfInBounds_toArray, List.set_cons_zero, List.set_cons_succ]
  refine take_at (i := 4) (v := ?v1160) rfl (by kernel_rfl) (by kernel_rfl) (by kernel_rfl) (fun _ _ _ h => h) (Or.inl ⟨by rfl, ?y1160⟩) hHeld ?t1160
  case y1160 => (intro wx hSw; go_simp <;> with_reducible rfl)
  simp only [Act.put, List.setIfInBounds_toArray, List.set_cons_zero, List.set_cons_succ]
  refine take_at (i := 5) (v := ?v1161) rfl (by kernel_rfl) (by kernel_rfl) (by kernel_rfl) (fun _ _ _ h => h) (Or.inl ⟨by rfl, ?y1161⟩) hHeld ?t1161
  case y1161 => (intro wx hSw; go_simp <;> with_reducible rfl)
  simp only [Act.put, List.setIfInBounds_toArray, List.set_cons_zero, List.set_cons_succ]
  refine take_at (i := 6) (v := ?v1162) rfl (by kernel_rfl) (by kernel_rfl) (by kernel_rfl) (fun _ _ _ h => h) (Or.inl ⟨by rfl, ?y1162⟩) hHeld ?t1162
  case y1162 => (intro wx hSw; go_simp <;> with_reducible rfl)
  simp only [Act.put, List.setIfInBounds_toArray, List.set_cons_zero, List.set_cons_succ]
  refine take_at (i := 7) (v := ?v1163) rfl (by kernel_rfl) (by kernel_rfl) (by kernel_rfl) (fun _ _ _ h => h) (Or.inl ⟨by rfl, ?y1163⟩) hHeld ?t1163
  case y1163 => (intro wx hSw; go_simp <;> with_reducible rfl)
  simp only [Act.put, List.setIfInBounds_toArray, List.set_cons_zero, List.set_cons_succ]
  refine take_at (i := 8) (v := ?v1164) rfl (by kernel_rfl) (by kernel_rfl) (by kernel_rfl) (fun _ _ _ h => h) (Or.inl ⟨by rfl, ?y1164⟩) hHeld ?t1164
  case y1164 => (intro wx hSw; have hc2 : wx.cell? ⟨w.heap.size + 1, 2, none⟩ = some (.int .i64 q.2.2.1) := hSw.1.c 2 (of_decide_eq_true rfl); go_simp <;> with_reducible rfl)
  simp only [Act.put, List.setIfInBounds_toArray, List.set_cons_zero, List.set_cons_succ]
  refine take_at (i := 9) (v := ?v1165) rfl (by kernel_rfl) (by kernel_rfl) (by kernel_rfl) (fun _ _ _ h => h) (Or.inl ⟨by rfl, ?y1165⟩) hHeld ?t1165
  case y1165 => (intro wx hSw; go_simp <;> with_reducible rfl)
  simp only [Act.put, List.setIfInBounds_toArray, List.set_cons_zero, List.set_cons_succ]
  refine take_at (i := 10) (v := ?v1166) rfl (by kernel_rfl) (by kernel_rfl) (by kernel_rfl) (fun _ _ _ h => h) (Or.inl ⟨by rfl, ?y1166⟩) hHeld ?t1166
  case y1166 => (intro wx hSw; go_simp <;> with_reducible rfl)
  simp only [Act.put, List.setIfInBounds_toArray, List.set_cons_zero, List.set_cons_succ]
  refine take_at (i := 11) (v := ?v1167) rfl (by kernel_rfl) (by kernel_rfl) (by kernel_rfl) (fun _ _ _ h => h) (Or.inl ⟨by rfl, ?y1167⟩) hHeld ?t1167
  case y1167 => (intro wx hSw; go_simp <;> with_reducible rfl)
  simp only [Act.put, List.setIfInBounds_toArray, List.set_cons_zero, List.set_cons_succ]
  refine take_at (i := 12) (v := ?v1168) rfl (by kernel_rfl) (by kernel_rfl) (by kernel_rfl) (fun _ _ _ h => h) (Or.inl ⟨by rfl, ?y1168⟩) hHeld ?t1168
  case y1168 => (intro wx hSw; have hc2 : wx.cell? ⟨w.heap.size, 2, none⟩ = some (.int .i64 p.2.2.1) := hSw.2.c 2 (of_decide_eq_true rfl); go_simp <;> with_reducible rfl)
  simp only [Act.put, List.setIfInBounds_toArray, List.set_cons_zero, List.set_cons_succ]
  refine take_at (i := 14) (v := ?v1169) rfl (by kernel_rfl) (by kernel_rfl) (by kernel_rfl) (fun _ _ _ h => h) (Or.inl ⟨by rfl, ?y1169⟩) hHeld ?t1169
  case y1169 => (intro wx hSw; go_simp <;> with_reducible rfl)
  simp only [Act.put, List.setIfInBounds_toArray, List.set_cons_zero, List.set_cons_succ]
  refine take_at (i := 15) (v := ?v1170) rfl (by kernel_rfl) (by kernel_rfl) (by kernel_rfl) (fun _ _ _ h => h) (Or.inl ⟨by rfl, ?y1170⟩) hHeld ?t1170
  case y1170 => (intro wx hSw; go_simp <;> with_reducible rfl)
  simp only [Act.put, List.setIfInBounds_toArray, List.set_cons_zero, List.set_cons_succ]
  refine take_at (i := 16) (v := ?v1171) rfl (by kernel_rfl) (by kernel_rfl) (by kernel_rfl) (fun _ _ _ h => h) (Or.inl ⟨by rfl, ?y1171⟩) hHeld ?t1171
  case y1171 => (intro wx hSw; go_simp <;> with_reducible rfl)
  simp only [Act.put, List.setIfInBounds_toArray, List.set_cons_zero, List.set_cons_succ]
  refine take_at (i := 17) (v := ?v1172) rfl (by kernel_rfl) (by kernel_rfl) (by kernel_rfl) (fun _ _ _ h => h) (Or.inl ⟨by rfl, ?y1172⟩) hHeld ?t1172
  case y1172 => (intro wx hSw; go_simp <;> with_reducible rfl)
  simp only [Act.put, List.setIfInBounds_toArray, List.set_cons_zero, List.set_cons_succ]
  refine take_at (i := 18) (v := ?v1173) rfl (by kernel_rfl) (by kernel_rfl) (by kernel_rfl) (fun _ _ _ h => h) (Or.inl ⟨by rfl, ?y1173⟩) hHeld ?t1173
  case y1173 => (intro wx hSw; have hc5 : wx.cell? ⟨w.heap.size + 1, 5, none⟩ = some (.int .i64 q.2.2.2.2.2.1) := hSw.1.c 5 (of_decide_eq_true rfl); go_simp <;> with_reducible rfl)
  simp only [Act.put, List.setIfInBounds_toArray, List.set_cons_zero, List.set_cons_succ]
  refine take_at (i := 19) (v := ?v1174) rfl (by kernel_rfl) (by kernel_rfl) (by kernel_rfl) (fun _ _ _ h => h) (Or.inl ⟨by rfl, ?y1174⟩) hHeld ?t1174
  case y1174 => (intro wx hSw; go_simp <;> with_reducible rfl)
  simp only [Act.put, List.setIfInBounds_toArray, List.set_cons_zero, List.set_cons_succ]
  refine take_at (i := 20) (v := ?v1175) rfl (by kernel_rfl) (by kernel_rfl) (by kernel_rfl) (fun _ _ _ h => h) (Or.inl ⟨by rfl, ?y1175⟩) hHeld ?t1175
  case y1175 => (intro wx hSw; go_simp <;> with_reducible rfl)
  simp only [Act.put, List.setIfInBounds_toArray, List.set_cons_zero, List.set_cons_succ]
  refine take_at (i := 21) (v := ?v1176) rfl (by kernel_rfl) (by kernel_rfl) (by kernel_rfl) (fun _ _ _ h => h) (Or.inl ⟨by rfl, ?y1176⟩) hHeld ?t1176
  case y1176 => (intro wx hSw; go_simp <;> with_reducible rfl)
  simp only [Act.put, List.setIfInBounds_toArray, List.set_cons_zero, List.set_cons_succ]
  refine take_at (i := 22) (v := ?v1177) rfl (by kernel_rfl) (by kernel_rfl) (by kernel_rfl) (fun _ _ _ h => h) (Or.inl ⟨by rfl, ?y1177⟩) hHeld ?t1177
  case y1177 => (intro wx hSw; have hc5 : wx.cell? ⟨w.heap.size, 5, none⟩ = some (.int .i64 p.2.2.2.2.2.1) := hSw.2.c 5 (of_decide_eq_true rfl); go_simp <;> with_reducible rfl)
  simp only [Act.put, List.setIfInBounds_toArray, List.set_cons_zero, List.set_cons_succ]
  refine take_at (i := 25) (v := ?v1178) rfl (by kernel_rfl) (by kernel_rfl) (by kernel_rfl) (fun _ _ _ h => h) (Or.inl ⟨by rfl, ?y1178⟩) hHeld ?t1178
  case y1178 => (intro wx hSw; go_simp <;> with_reducible rfl)
  simp only [Act.put, List.setIfInBounds_toArray, List.set_cons_zero, List.set_cons_succ]
  refine take_at (i := 26) (v := ?v1179) rfl (by kernel_rfl) (by kernel_rfl) (by kernel_rfl) (fun _ _ _ h => h) (Or.inl ⟨by rfl, ?y1179⟩) hHeld ?t1179
  case y1179 => (intro wx hSw; go_simp <;> with_reducible rfl)
  simp only [Act.put, List.setIfInBounds_toArray, List.set_cons_zero, List.set_cons_succ]
  refine take_at (i := 27) (v := ?v1180) rfl (by kernel_rfl) (by kernel_rfl) (by kernel_rfl) (fun _ _ _ h => h) (Or.inl ⟨by rfl, ?y1180⟩) hHeld ?t1180
  case y1180 => (intro wx hSw; go_simp <;> with_reducible rfl)
  simp only [Act.put, List.setIfInBounds_toArray, List.set_cons_zero, List.set_cons_succ]
  refine take_at (i := 28) (v := ?v1181) rfl (by kernel_rfl) (by kernel_rfl) (by kernel_rfl) (fun _ _ _ h => h) (Or.inl ⟨by rfl, ?y1181⟩) hHeld ?t1181
  case y1181 => (intro wx hSw; go_simp <;> with_reducible rfl)
  simp only [Act.put, List.setIfInBounds_toArray, List.set_cons_zero, List.set_cons_succ]
  refine take_at (i := 29) (v := ?v1182) rfl (by kernel_rfl) (by kernel_rfl) (by kernel_rfl) (fun _ _ _ h => h) (Or.inl ⟨by rfl, ?y1182⟩) hHeld ?t1182
  case y1182 => (intro wx hSw; have hc8 : wx.cell? ⟨w.heap.size + 1, 8, none⟩ = some (.int .i64 q.2.2.2.2.2.2.2.2) := hSw.1.c 8 (of_decide_eq_true rfl); go_simp <;> with_reducible rfl)
  simp only [Act.put, List.setIfInBounds_toArray, List.set_cons_zero, List.set_cons_succ]
  refine take_at (i := 30) (v := ?v1183) rfl (by kernel_rfl) (by kernel_rfl) (by kernel_rfl) (fun _ _ _ h => h) (Or.inl ⟨by rfl, ?y1183⟩) hHeld ?t1183
  case y1183 => (intro wx hSw; go_simp <;> with_reducible rfl)
  simp only [Act.put, List.setIfInBounds_toArray, List.set_cons_zero, List.set_cons_succ]
  refine take_at (i := 31) (v := ?v1184) rfl (by kernel_rfl) (by kernel_rfl) (by kernel_rfl) (fun _ _ _ h => h) (Or.inl ⟨by rfl, ?y1184⟩) hHeld ?t1184
  case y1184 => (intro wx hSw; go_simp <;> with_reducible rfl)
  simp only [Act.put, List.setIfInBounds_toArray, List.set_cons_zero, List.set_cons_succ]
  refine take_at (i := 32) (v := ?v1185) rfl (by kernel_rfl) (by kernel_rfl) (by kernel_rfl) (fun _ _ _ h => h) (Or.inl ⟨by rfl, ?y1185⟩) hHeld ?t1185
  case y1185 => (intro wx hSw; go_simp <;> with_reducible rfl)
  simp only [Act.put, List.setIfInBounds_toArray, List.set_cons_zero, List.set_cons_succ]
  refine take_at (i := 33) (v := ?v1186) rfl (by kernel_rfl) (by kernel_rfl) (by kernel_rfl) (fun _ _ _ h => h) (Or.inl ⟨by rfl, ?y1186⟩) hHeld ?t1186
  case y1186 => (intro wx hSw; have hc8 : wx.cell? ⟨w.heap.size, 8, none⟩ = some (.int .i64 p.2.2.2.2.2.2.2.2) := hSw.2.c 8 (of_decide_eq_true rfl); go_simp <;> with_reducible rfl)
  simp only [Act.put, List.setIfInBounds_toArray, List.set_cons_zero, List.set_cons_succ]
  refine take_at (i := 36) (v := ?v1187) rfl (by kernel_rfl) (by kernel_rfl) (by kernel_rfl) (fun _ _ _ h => h) (Or.inl ⟨by rfl, ?y1187⟩) hHeld ?t1187
  case y1187 => (intro wx hSw; go_simp <;> with_reducible rfl)
  simp only [Act.put, List.setIfInBounds_toArray, List.set_cons_zero, List.set_cons_succ]
  refine call_at (i := 13) (by kernel_rfl) rfl (fun K hK => ?_)
  go_simp
  refine (Mul_any b r47.2 q.2.2.1 p.2.2.1 _ BF_48.drew).mono ?_
  rintro e w49 ⟨rfl, f49, k49⟩
  generalize e49 : mulS r47.2 q.2.2.1 p.2.2.1 = r49 at f49 ⊢
  have E49 : Hid _ := e49
  clear e49
  have K49 : Kept b w w49 := Kept.trans K48.drew k49
  have B0_49 : Arr w.heap.size [.int .i64 p.1, .int .i64 p.2.1, .int .i64 p.2.2.1, .int .i64 p.2.2.2.1, .int .i64 p.2.2.2.2.1, .int .i64 p.2.2.2.2.2.1, .int .i64 p.2.2.2.2.2.2.1, .int .i64 p.2.2.2.2.2.2.2.1, .int .i64 p.2.2.2.2.2.2.2.2] w49 := B0_48.drew.kept k49 (by omega)
  have B1_49 : Arr (w.heap.size + 1) [.int .i64 q.1, .int .i64 q.2.1, .int .i64 q.2.2.1, .int .i64 q.2.2.2.1, .int .i64 q.2.2.2.2.1, .int .i64 q.2.2.2.2.2.1, .int .i64 q.2.2.2.2.2.2.1, .int .i64 q.2.2.2.2.2.2.2.1, .int .i64 q.2.2.2.2.2.2.2.2] w49 := B1_48.drew.kept k49 (by omega)
  have B2_49 : Arr (w.heap.size + 1 + 1) [.int .i64 r5.1, .int .i64 r11.1, .int .i64 r17.1, .int .i64 r23.1, .int .i64 r29.1, .int .i64 r35.1, .int .i64 r41.1, .int .i64 r47.1, .int .i64 0] w49 := B2_48.drew.kept k49 (by omega)
  have z49 := B2_49.lies
  clear hHeld
  refine hK.out _ _ ⟨B1_49, B0_49⟩ (fun hHeld => ?_)
  clear hK K K48 BF_48 B0_48 B1_48 B2_48 k49
  refine call_at (i := 23) (by kernel_rfl) rfl (fun K hK => ?_)
  go_simp
  refine (Mul_any b r49.2 q.2.2.2.2.2.1 p.2.2.2.2.2.1 _ f49).mono ?_
  rintro e w50 ⟨rfl, f50, k50⟩
  generalize e50 : mulS r49.2 q.2.2.2.2.2.1 p.2.2.2.2.2.1 = r50 at f50 ⊢
  have E50 : Hid _ := e50
  clear e50
  have K50 : Kept b w w50 := Kept.trans K49 k50
  have B0_50 : Arr w.heap.size [.int .i64 p.1, .int .i64 p.2.1, .int .i64 p.2.2.1, .int .i64 p.2.2.2.1, .int .i64 p.2.2.2.2.1, .int .i64 p.2.2.2.2.2.1, .int .i64 p.2.2.2.2.2.2.1, .int .i64 p.2.2.2.2.2.2.2.1, .int .i64 p.2.2.2.2.2.2.2.2] w50 := B0_49.kept k50 (by omega)
  have B1_50 : Arr (w.heap.size + 1) [.int .i64 q.1, .int .i64 q.2.1, .int .i64 q.2.2.1, .int .i64 q.2.2.2.1, .int .i64 q.2.2.2.2.1, .int .i64 q.2.2.2.2.2.1, .int .i64 q.2.2.2.2.2.2.1, .int .i64 q.2.2.2.2.2.2.2.1, .int .i64 q.2.2.2.2.2.2.2.2] w50 := B1_49.kept k50 (by omega)
  have B2_50 : Arr (w.heap.size + 1 + 1) [.int .i64 r5.1, .int .i64 r11.1, .int .i64 r17.1, .int .i64 r23.1, .int .i64 r29.1, .int .i64 r35.1, .int .i64 r41.1, .int .i64 r47.1, .int .i64 0] w50 := B2_49.kept k50 (by omega)
  have z50 := B2_50.lies
  clear hHeld
  refine hK.out _ _ ⟨B1_50, B0_50⟩ (fun hHeld => ?_)
  clear hK K K49 f49 B0_49 B1_49 B2_49 k50
  refine call_at (i := 24) (by kernel_rfl) rfl (fun K hK => ?_)
  go_simp
  refine (Add_any b r50.2 r49.1 r50.1 _ f50).mono ?_
  rintro e w51 ⟨rfl, f51, k51⟩
  generalize e51 : addS r50.2 r49.1 r50.1 = r51 at f51 ⊢
  have E51 : Hid _ := e51
  clear e51
  have K51 : Kept b w w51 := Kept.trans K50 k51
  have B0_51 : Arr w.heap.size [.int .i64 p.1, .int .i64 p.2.1, .int .i64 p.2.2.1, .int .i64 p.2.2.2.1, .int .i64 p.2.2.2.2.1, .int .i64 p.2.2.2.2.2.1, .int .i64 p.2.2.2.2.2.2.1, .int .i64 p.2.2.2.2.2.2.2.1, .int .i64 p.2.2.2.2.2.2.2.2] w51 := B0_50.kept k51 (by omega)
  have B1_51 : Arr (w.heap.size + 1) [.int .i64 q.1, .int .i64 q.2.1, .int .i64 q.2.2.1, .int .i64 q.2.2.2.1, .int .i64 q.2.2.2.2.1, .int .i64 q.2.2.2.2.2.1, .int .i64 q.2.2.2.2.2.2.1, .int .i64 q.2.2.2.2.2.2.2.1, .int .i64 q.2.2.2.2.2.2.2.2] w51 := B1_50.kept k51 (by omega)
  have B2_51 : Arr (w.heap.size + 1 + 1) [.int .i64 r5.1, .int .i64 r11.1, .int .i64 r17.1, .int .i64 r23.1, .int .i64 r29.1, .int .i64 r35.1, .int .i64 r41.1, .int .i64 r47.1, .int .i64 0] w51 := B2_50.kept k51 (by omega)
  have z51 := B2_51.lies
  clear hHeld
  refine hK.out _ _ ⟨B1_51, B0_51⟩ (fun hHeld => ?_)
  clear hK K K50 f50 B0_50 B1_50 B2_50 k51
  refine call_at (i := 34) (by kernel_rfl) rfl (fun K hK => ?_)
  go_simp
  refine (Mul_any b r51.2 q.2.2.2.2.2.2.2.2 p.2.2.2.2.2.2.2.2 _ f51).mono ?_
  rintro e w52 ⟨rfl, f52, k52⟩
  generalize e52 : mulS r51.2 q.2.2.2.2.2.2.2.2 p.2.2.2.2.2.2.2.2 = r52 at f52 ⊢
  have E52 : Hid _ := e52
  clear e52
  have K52 : Kept b w w52 := Kept.trans K51 k52
  have B0_52 : Arr w.heap.size [.int .i64 p.1, .int .i64 p.2.1, .int .i64 p.2.2.1, .int .i64 p.2.2.2.1, .int .i64 p.2.2.2.2.1, .int .i64 p.2.2.2.2.2.1, .int .i64 p.2.2.2.2.2.2.1, .int .i64 p.2.2.2.2.2.2.2.1, .int .i64 p.2.2.2.2.2.2.2.2] w52 := B0_51.kept k52 (by omega)
  have B1_52 : Arr (w.heap.size + 1) [.int .i64 q.1, .int .i64 q.2.1, .int .i64 q.2.2.1, .int .i64 q.2.2.2.1, .int .i64 q.2.2.2.2.1, .int .i64 q.2.2.2.2.2.1, .int .i64 q.2.2.2.2.2.2.1, .int .i64 q.2.2.2.2.2.2.2.1, .int .i64 q.2.2.2.2.2.2.2.2] w52 := B1_51.kept k52 (by omega)
  have B2_52 : Arr (w.heap.size + 1 + 1) [.int .i64 r5.1, .int .i64 r11.1, .int .i64 r17.1, .int .i64 r23.1, .int .i64 r29.1, .int .i64 r35.1, .int .i64 r41.1, .int .i64 r47.1, .int .i64 0] w52 := B2_51.kept k52 (by omega)
  have z52 := B2_52.lies
  clear hHeld
  refine hK.out _ _ ⟨B1_52, B0_52⟩ (fun hHeld => ?_)
  clear hK K K51 f51 B0_51 B1_51 B2_51 k52
  refine call_at (i := 35) (by kernel_rfl) rfl (fun K hK => ?_)
  go_simp
  refine (Add_any b r52.2 r51.1 r52.1 _ f52).mono ?_
  rintro e w53 ⟨rfl, f53, k53⟩
  generalize e53 : addS r52.2 r51.1 r52.1 = r53 at f53 ⊢
  have E53 : Hid _ := e53
  clear e53
  have K53 : Kept b w w53 := Kept.trans K52 k53
  have B0_53 : Arr w.heap.size [.int .i64 p.1, .int .i64 p.2.1, .int .i64 p.2.2.1, .int .i64 p.2.2.2.1, .int .i64 p.2.2.2.2.1, .int .i64 p.2.2.2.2.2.1, .int .i64 p.2.2.2.2.2.2.1, .int .i64 p.2.2.2.2.2.2.2.1, .int .i64 p.2.2.2.2.2.2.2.2] w53 := B0_52.kept k53 (by omega)
  have B1_53 : Arr (w.heap.size + 1) [.int .i64 q.1, .int .i64 q.2.1, .int .i64 q.2.2.1, .int .i64 q.2.2.2.1, .int .i64 q.2.2.2.2.1, .int .i64 q.2.2.2.2.2.1, .int .i64 q.2.2.2.2.2.2.1, .int .i64 q.2.2.2.2.2.2.2.1, .int .i64 q.2.2.2.2.2.2.2.2] w53 := B1_52.kept k53 (by omega)
  have B2_53 : Arr (w.heap.size + 1 + 1) [.int .i64 r5.1, .int .i64 r11.1, .int .i64 r17.1, .int .i64 r23.1, .int .i64 r29.1, .int .i64 r35.1, .int .i64 r41.1, .int .i64 r47.1, .int .i64 0] w53 := B2_52.kept k53 (by omega)
  have z53 := B2_53.lies
  clear hHeld
  refine hK.out _ _ ⟨B1_53, B0_53⟩ (fun hHeld => ?_)
  clear hK K K52 f52 B0_52 B1_52 B2_52 k53
  refine take_at (i := 37) (v := ?v1188) rfl (by kernel_rfl) (by kernel_rfl) (by kernel_rfl) (fun _ _ _ h => h) (Or.inl ⟨by rfl, ?y1188⟩) hHeld ?t1188
  case y1188 => (intro wx hSw; go_simp <;> with_reducible rfl)
  simp only [Act.put, List.setIfInBounds_toArray, List.set_cons_zero, List.set_cons_succ]
  refine call_at (i := 38) (by kernel_rfl) rfl (fun K hK => ?_)
  have c32_B2_8 : w53.cell? ⟨w.heap.size + 1 + 1, 8, none⟩ = some (.int .i64 0) := B2_53.c 8 (of_decide_eq_true rfl)
  have g32_B2_8 := B2_53.f 8 (of_decide_eq_true rfl)
  go_simp
  clear hHeld
  refine hK.out _ _ ⟨(B1_53.new (w.heap.size + 1 + 1) 8 (by omega) (.int .i64 r53.1)), (B0_53.new (w.heap.size + 1 + 1) 8 (by omega) (.int .i64 r53.1))⟩ (fun hHeld => ?_)
  clear hK K c32_B2_8 g32_B2_8
  refine wpAnyH_done (by kernel_rfl) ?_ _
  clear hHeld
  have P53 : Hid (plS r47.2 q.2.2.1 p.2.2.1 q.2.2.2.2.2.1 p.2.2.2.2.2.1 q.2.2.2.2.2.2.2.2 p.2.2.2.2.2.2.2.2 = r53) := by show _ = _; unfold plS; simp only [E49.out, E50.out, E51.out, E52.out, E53.out]
  clear E49 E50 E51 E52 E53
  go_wp2_with fail
  refine rounds_letter (S := fun w' => Kept b w w' ∧ Fl b r53.2 w' ∧ Arr w.heap.size [.int .i64 p.1, .int .i64 p.2.1, .int .i64 p.2.2.1, .int .i64 p.2.2.2.1, .int .i64 p.2.2.2.2.1, .int .i64 p.2.2.2.2.2.1, .int .i64 p.2.2.2.2.2.2.1, .int .i64 p.2.2.2.2.2.2.2.1, .int .i64 p.2.2.2.2.2.2.2.2] w' ∧ Arr (w.heap.size + 1) [.int .i64 q.1, .int .i64 q.2.1, .int .i64 q.2.2.1, .int .i64 q.2.2.2.1, .int .i64 q.2.2.2.2.1, .int .i64 q.2.2.2.2.2.1, .int .i64 q.2.2.2.2.2.2.1, .int .i64 q.2.2.2.2.2.2.2.1, .int .i64 q.2.2.2.2.2.2.2.2] w' ∧ Arr (w.heap.size + 1 + 1) [.int .i64 r5.1, .int .i64 r11.1, .int .i64 r17.1, .int .i64 r23.1, .int .i64 r29.1, .int .i64 r35.1, .int .i64 r41.1, .int .i64 r47.1, .int .i64 r53.1] w') ⟨(K53.new _ _ (by omega) _), (f53.new (w.heap.size + 1 + 1) 8 (by omega) (.int .i64 r53.1)), (B0_53.new (w.heap.size + 1 + 1) 8 (by omega) (.int .i64 r53.1)), (B1_53.new (w.heap.size + 1 + 1) 8 (by omega) (.int .i64 r53.1)), (B2_53.put 8 (of_decide_eq_true rfl) (.int .i64 r53.1) [.int .i64 r5.1, .int .i64 r11.1, .int .i64 r17.1, .int .i64 r23.1, .int .i64 r29.1, .int .i64 r35.1, .int .i64 r41.1, .int .i64 r47.1, .int .i64 r53.1] rfl)⟩ ?_
  rintro w54 ⟨K54, BF_54, B0_54, B1_54, B2_54⟩
  have z54 := B2_54.lies
  clear K53 f53 B0_53 B1_53 B2_53
  rw [rounds_succ]
  go_wp2_with fail
  rw [rounds_succ]
  have c35_B2_0 : w54.cell? ⟨w.heap.size + 1 + 1, 0, none⟩ = some (.int .i64 r5.1) := B2_54.c 0 (of_decide_eq_true rfl)
  have c35_B2_1 : w54.cell? ⟨w.heap.size + 1 + 1, 1, none⟩ = some (.int .i64 r11.1) := B2_54.c 1 (of_decide_eq_true rfl)
  have c35_B2_2 : w54.cell? ⟨w.heap.size + 1 + 1, 2, none⟩ = some (.int .i64 r17.1) := B2_54.c 2 (of_decide_eq_true rfl)
  have c35_B2_3 : w54.cell? ⟨w.heap.size + 1 + 1, 3, none⟩ = some (.int .i64 r23.1) := B2_54.c 3 (of_decide_eq_true rfl)
  have c35_B2_4 : w54.cell? ⟨w.heap.size + 1 + 1, 4, none⟩ = some (.int .i64 r29.1) := B2_54.c 4 (of_decide_eq_true rfl)
  have c35_B2_5 : w54.cell? ⟨w.heap.size + 1 + 1, 5, none⟩ = some (.int .i64 r35.1) := B2_54.c 5 (of_decide_eq_true rfl)
  have c35_B2_6 : w54.cell? ⟨w.heap.size + 1 + 1, 6, none⟩ = some (.int .i64 r41.1) := B2_54.c 6 (of_decide_eq_true rfl)
  have c35_B2_7 : w54.cell? ⟨w.heap.size + 1 + 1, 7, none⟩ = some (.int .i64 r47.1) := B2_54.c 7 (of_decide_eq_true rfl)
  have c35_B2_8 : w54.cell? ⟨w.heap.size + 1 + 1, 8, none⟩ = some (.int .i64 r53.1) := B2_54.c 8 (of_decide_eq_true rfl)
  have g35_B2_0 := B2_54.f 0 (of_decide_eq_true rfl)
  have g35_B2_1 := B2_54.f 1 (of_decide_eq_true rfl)
  have g35_B2_2 := B2_54.f 2 (of_decide_eq_true rfl)
  have g35_B2_3 := B2_54.f 3 (of_decide_eq_true rfl)
  have g35_B2_4 := B2_54.f 4 (of_decide_eq_true rfl)
  have g35_B2_5 := B2_54.f 5 (of_decide_eq_true rfl)
  have g35_B2_6 := B2_54.f 6 (of_decide_eq_true rfl)
  have g35_B2_7 := B2_54.f 7 (of_decide_eq_true rfl)
  have g35_B2_8 := B2_54.f 8 (of_decide_eq_true rfl)
  go_wp2_with (with_reducible refine post_stop ?_)
  refine Stop.mk ?_
  clear c35_B2_0 c35_B2_1 c35_B2_2 c35_B2_3 c35_B2_4 c35_B2_5 c35_B2_6 c35_B2_7 c35_B2_8 g35_B2_0 g35_B2_1 g35_B2_2 g35_B2_3 g35_B2_4 g35_B2_5 g35_B2_6 g35_B2_7 g35_B2_8
  refine bodyPost_ret (v := .agg #[.int .i64 r5.1, .int .i64 r11.1, .int .i64 r17.1, .int .i64 r23.1, .int .i64 r29.1, .int .i64 r35.1, .int .i64 r41.1, .int .i64 r47.1, .int .i64 r53.1]) (results_arr Try.results23 (((((((((B2_54.put 0 (of_decide_eq_true rfl) (.int .i64 r5.1) [.int .i64 r5.1, .int .i64 r11.1, .int .i64 r17.1, .int .i64 r23.1, .int .i64 r29.1, .int .i64 r35.1, .int .i64 r41.1, .int .i64 r47.1, .int .i64 r53.1] rfl).put 1 (of_decide_eq_true rfl) (.int .i64 r11.1) [.int .i64 r5.1, .int .i64 r11.1, .int .i64 r17.1, .int .i64 r23.1, .int .i64 r29.1, .int .i64 r35.1, .int .i64 r41.1, .int .i64 r47.1, .int .i64 r53.1] rfl).put 2 (of_decide_eq_true rfl) (.int .i64 r17.1) [.int .i64 r5.1, .int .i64 r11.1, .int .i64 r17.1, .int .i64 r23.1, .int .i64 r29.1, .int .i64 r35.1, .int .i64 r41.1, .int .i64 r47.1, .int .i64 r53.1] rfl).put 3 (of_decide_eq_true rfl) (.int .i64 r23.1) [.int .i64 r5.1, .int .i64 r11.1, .int .i64 r17.1, .int .i64 r23.1, .int .i64 r29.1, .int .i64 r35.1, .int .i64 r41.1, .int .i64 r47.1, .int .i64 r53.1] rfl).put 4 (of_decide_eq_true rfl) (.int .i64 r29.1) [.int .i64 r5.1, .int .i64 r11.1, .int .i64 r17.1, .int .i64 r23.1, .int .i64 r29.1, .int .i64 r35.1, .int .i64 r41.1, .int .i64 r47.1, .int .i64 r53.1] rfl).put 5 (of_decide_eq_true rfl) (.int .i64 r35.1) [.int .i64 r5.1, .int .i64 r11.1, .int .i64 r17.1, .int .i64 r23.1, .int .i64 r29.1, .int .i64 r35.1, .int .i64 r41.1, .int .i64 r47.1, .int .i64 r53.1] rfl).put 6 (of_decide_eq_true rfl) (.int .i64 r41.1) [.int .i64 r5.1, .int .i64 r11.1, .int .i64 r17.1, .int .i64 r23.1, .int .i64 r29.1, .int .i64 r35.1, .int .i64 r41.1, .int .i64 r47.1, .int .i64 r53.1] rfl).put 7 (of_decide_eq_true rfl) (.int .i64 r47.1) [.int .i64 r5.1, .int .i64 r11.1, .int .i64 r17.1, .int .i64 r23.1, .int .i64 r29.1, .int .i64 r35.1, .int .i64 r41.1, .int .i64 r47.1, .int .i64 r53.1] rfl).put 8 (of_decide_eq_true rfl) (.int .i64 r53.1) [.int .i64 r5.1, .int .i64 r11.1, .int .i64 r17.1, .int .i64 r23.1, .int .i64 r29.1, .int .i64 r35.1, .int .i64 r41.1, .int .i64 r47.1, .int .i64 r53.1] rfl) rfl (by kernel_rfl) (by kernel_rfl)) rfl ?_
  have hs : dbetweenS bad p q = ((r5.1, r11.1, r17.1, r23.1, r29.1, r35.1, r41.1, r47.1, r53.1), r53.2) := by unfold dbetweenS; simp only [P5.out, P11.out, P17.out, P23.out, P29.out, P35.out, P41.out, P47.out, P53.out]
  rw [hs]
  exact ⟨rfl, (((((((((BF_54.new (w.heap.size + 1 + 1) 0 (by omega) (.int .i64 r5.1)).new (w.heap.size + 1 + 1) 1 (by omega) (.int .i64 r11.1)).new (w.heap.size + 1 + 1) 2 (by omega) (.int .i64 r17.1)).new (w.heap.size + 1 + 1) 3 (by omega) (.int .i64 r23.1)).new (w.heap.size + 1 + 1) 4 (by omega) (.int .i64 r29.1)).new (w.heap.size + 1 + 1) 5 (by omega) (.int .i64 r35.1)).new (w.heap.size + 1 + 1) 6 (by omega) (.int .i64 r41.1)).new (w.heap.size + 1 + 1) 7 (by omega) (.int .i64 r47.1)).new (w.heap.size + 1 + 1) 8 (by omega) (.int .i64 r53.1)), (((((((((K54.new _ _ (by omega) _).new _ _ (by omega) _).new _ _ (by omega) _).new _ _ (by omega) _).new _ _ (by omega) _).new _ _ (by omega) _).new _ _ (by omega) _).new _ _ (by omega) _).new _ _ (by omega) _)⟩
end Go.Proofs.Ytkeijfbpkdelpaa
