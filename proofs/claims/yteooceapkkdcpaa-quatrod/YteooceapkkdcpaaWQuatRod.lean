/-
  The walk of the law QuatRod, for the seat Yteooceapkkdcpaa. (Made by mklaw04.py.)
-/
import Derived.Test.YteooceapkkdcpaaQAwake
import Derived.Test.YteooceapkkdcpaaQEqv
import Derived.Test.YteooceapkkdcpaaVEqv
import Derived.Test.YteooceapkkdcpaaXRod
import Derived.Test.YteooceapkkdcpaaXToRod
import Derived.Handy
import Derived.Deep.RegionHeld3
namespace Go.Proofs.Yteooceapkkdcpaa
open Go.RowKit

theorem yFromRod_any (b : Nat) (bad : Bool) (p : V3) (w : World) (hw : Fl b bad w) :
    Calls Try.prog 19 #[.pointer (some ⟨b, 0, none⟩), .agg #[.int .i64 p.1, .int .i64 p.2.1, .int .i64 p.2.2]] w fun e w' => e = .returned (.agg #[.int .i64 ((qFromRodS bad p).1.1), .int .i64 ((qFromRodS bad p).1.2.1), .int .i64 ((qFromRodS bad p).1.2.2.1), .int .i64 ((qFromRodS bad p).1.2.2.2)]) ∧ Fl b (qFromRodS bad p).2 w' ∧ Kept b w w' := by
  have h := xFromRod_any b bad p w hw
  rw [xFromRod_eq] at h
  exact h
theorem yToRod_any (b : Nat) (bad : Bool) (q : V4) (w : World) (hw : Fl b bad w) :
    Calls Try.prog 21 #[.pointer (some ⟨b, 0, none⟩), .agg #[.int .i64 q.1, .int .i64 q.2.1, .int .i64 q.2.2.1, .int .i64 q.2.2.2]] w fun e w' => e = .returned (.agg #[.int .i64 ((qToRodS bad q).1.1), .int .i64 ((qToRodS bad q).1.2.1), .int .i64 ((qToRodS bad q).1.2.2)]) ∧ Fl b (qToRodS bad q).2 w' ∧ Kept b w w' := by
  have h := xToRod_any b bad q w hw
  rw [xToRod_eq] at h
  exact h
set_option maxRecDepth 100000 in
set_option maxHeartbeats 4000000 in
theorem QuatRod_any (q : V4) (p : V3) (bad : Bool) (w : World) :
    Calls Try.prog 6 #[.agg #[.int .i64 q.1, .int .i64 q.2.1, .int .i64 q.2.2.1, .int .i64 q.2.2.2], .agg #[.int .i64 p.1, .int .i64 p.2.1, .int .i64 p.2.2], .bool bad] w fun e w' => e = .returned (.bool true) ∧ Below w.heap.size w w' := by
  go_enter Try.func6, Try.ntmps6
  go_wp2_with fail
  refine (awake_any  _).mono ?_
  rintro e w1 ⟨rfl, k1⟩
  have K1 : Below w.heap.size w w1 := bel_then (bel_al (bel_al (Below.refl w.heap.size w) _) _) k1
  have B0_1 : Arr w.heap.size [.int .i64 q.1, .int .i64 q.2.1, .int .i64 q.2.2.1, .int .i64 q.2.2.2] w1 := ((Arr_at _ _ [.int .i64 q.1, .int .i64 q.2.1, .int .i64 q.2.2.1, .int .i64 q.2.2.2] _ (by simp)).alloc _).below k1
  have B1_1 : Arr (w.heap.size + 1) [.int .i64 p.1, .int .i64 p.2.1, .int .i64 p.2.2] w1 := (Arr_at _ _ [.int .i64 p.1, .int .i64 p.2.1, .int .i64 p.2.2] _ (by simp)).below k1
  have z1 := B1_1.lies
  clear k1
  go_wp2_with fail
  refine (flows_any bad _).mono ?_
  rintro e w2 ⟨rfl, rfl⟩
  go_wp2_with fail
  refine (flows_any bad _).mono ?_
  rintro e w2 ⟨rfl, rfl⟩
  go_wp2_with fail
  refine wp_region_held_drew (S := fun w' => Arr (w.heap.size + 1) [.int .i64 p.1, .int .i64 p.2.1, .int .i64 p.2.2] w' ∧ Arr w.heap.size [.int .i64 q.1, .int .i64 q.2.1, .int .i64 q.2.2.1, .int .i64 q.2.2.2] w') (by kernel_rfl) ⟨((((B1_1.alloc _).alloc _).alloc _).alloc _).drew, ((((B0_1.alloc _).alloc _).alloc _).alloc _).drew⟩ (fun hHeld => ?_)
  refine take_at (i := 0) (v := ?v61) rfl (by kernel_rfl) (by kernel_rfl) (by kernel_rfl) (fun _ _ _ h => h) (Or.inl ⟨by rfl, ?y61⟩) hHeld ?t61
  case y61 => (intro wx hSw; go_simp <;> with_reducible rfl)
  simp only [Act.put, List.setIfInBounds_toArray, List.set_cons_zero, List.set_cons_succ]
  refine take_at (i := 1) (v := ?v62) rfl (by kernel_rfl) (by kernel_rfl) (by kernel_rfl) (fun _ _ _ h => h) (Or.inl ⟨by rfl, ?y62⟩) hHeld ?t62
  case y62 => (intro wx hSw; have hc0 : wx.cell? ⟨w.heap.size + 1, 0, none⟩ = some (.int .i64 p.1) := hSw.1.c 0 (of_decide_eq_true rfl); have hc1 : wx.cell? ⟨w.heap.size + 1, 1, none⟩ = some (.int .i64 p.2.1) := hSw.1.c 1 (of_decide_eq_true rfl); have hc2 : wx.cell? ⟨w.heap.size + 1, 2, none⟩ = some (.int .i64 p.2.2) := hSw.1.c 2 (of_decide_eq_true rfl); go_simp <;> with_reducible rfl)
  simp only [Act.put, List.setIfInBounds_toArray, List.set_cons_zero, List.set_cons_succ]
  refine take_at (i := 3) (v := ?v63) rfl (by kernel_rfl) (by kernel_rfl) (by kernel_rfl) (fun _ _ _ h => h) (Or.inl ⟨by rfl, ?y63⟩) hHeld ?t63
  case y63 => (intro wx hSw; go_simp <;> with_reducible rfl)
  simp only [Act.put, List.setIfInBounds_toArray, List.set_cons_zero, List.set_cons_succ]
  refine take_at (i := 4) (v := ?v64) rfl (by kernel_rfl) (by kernel_rfl) (by kernel_rfl) (fun _ _ _ h => h) (Or.inl ⟨by rfl, ?y64⟩) hHeld ?t64
  case y64 => (intro wx hSw; have hc0 : wx.cell? ⟨w.heap.size + 1, 0, none⟩ = some (.int .i64 p.1) := hSw.1.c 0 (of_decide_eq_true rfl); have hc1 : wx.cell? ⟨w.heap.size + 1, 1, none⟩ = some (.int .i64 p.2.1) := hSw.1.c 1 (of_decide_eq_true rfl); have hc2 : wx.cell? ⟨w.heap.size + 1, 2, none⟩ = some (.int .i64 p.2.2) := hSw.1.c 2 (of_decide_eq_true rfl); go_simp <;> with_reducible rfl)
  simp only [Act.put, List.setIfInBounds_toArray, List.set_cons_zero, List.set_cons_succ]
  refine call_at (i := 2) (by kernel_rfl) rfl (fun K hK => ?_)
  go_simp
  refine (qFromRod_any w1.heap.size bad p _ ((((Fl_at _ _ _ _ (by simp)).alloc _).alloc _).alloc _).drew).mono ?_
  rintro e w2 ⟨rfl, f2, k2⟩
  generalize e2 : qFromRodS bad p = r2 at f2 ⊢
  have E2 : Hid _ := e2
  clear e2
  have K2 : Below w.heap.size w w2 := k2.on (Below.drew (bel_al (bel_al (bel_al (bel_al K1 _) _) _) _)) (by omega)
  have B0_2 : Arr w.heap.size [.int .i64 q.1, .int .i64 q.2.1, .int .i64 q.2.2.1, .int .i64 q.2.2.2] w2 := ((((B0_1.alloc _).alloc _).alloc _).alloc _).drew.kept k2 (by omega)
  have B1_2 : Arr (w.heap.size + 1) [.int .i64 p.1, .int .i64 p.2.1, .int .i64 p.2.2] w2 := ((((B1_1.alloc _).alloc _).alloc _).alloc _).drew.kept k2 (by omega)
  have B3_2 : Fl (w1.heap.size + 1) bad w2 := (((Fl_at _ _ _ _ (by simp)).alloc _).alloc _).drew.kept k2 (by omega)
  have B4_2 : Fl (w1.heap.size + 1 + 1) bad w2 := ((Fl_at _ _ _ _ (by simp)).alloc _).drew.kept k2 (by omega)
  have B5_2 : Fl (w1.heap.size + 1 + 1 + 1) bad w2 := (Fl_at _ _ _ _ (by simp)).drew.kept k2 (by omega)
  have z2 := B5_2.lies
  clear hHeld
  refine hK.out _ _ ⟨B1_2, B0_2⟩ (fun hHeld => ?_)
  clear hK K K1 B0_1 B1_1 k2
  refine wpAnyH_swap (S := fun w' => Arr (w.heap.size + 1) [.int .i64 p.1, .int .i64 p.2.1, .int .i64 p.2.2] w' ∧ Arr w.heap.size [.int .i64 q.1, .int .i64 q.2.1, .int .i64 q.2.2.1, .int .i64 q.2.2.2] w' ∧ Fl w1.heap.size r2.2 w') (fun _ h => ⟨h.1, h.2.1⟩) ?_
  clear hHeld
  have hHeld : Arr (w.heap.size + 1) [.int .i64 p.1, .int .i64 p.2.1, .int .i64 p.2.2] w2 ∧ Arr w.heap.size [.int .i64 q.1, .int .i64 q.2.1, .int .i64 q.2.2.1, .int .i64 q.2.2.2] w2 ∧ Fl w1.heap.size r2.2 w2 := ⟨B1_2, B0_2, f2⟩
  refine call_at (i := 5) (by kernel_rfl) rfl (fun K hK => ?_)
  go_simp
  refine (yFromRod_any (w1.heap.size + 1) bad p _ B3_2).mono ?_
  rintro e w3 ⟨rfl, f3, k3⟩
  rw [E2.out] at f3 ⊢
  have K3 : Below w.heap.size w w3 := k3.on K2 (by omega)
  have B0_3 : Arr w.heap.size [.int .i64 q.1, .int .i64 q.2.1, .int .i64 q.2.2.1, .int .i64 q.2.2.2] w3 := B0_2.kept k3 (by omega)
  have B1_3 : Arr (w.heap.size + 1) [.int .i64 p.1, .int .i64 p.2.1, .int .i64 p.2.2] w3 := B1_2.kept k3 (by omega)
  have B2_3 : Fl w1.heap.size r2.2 w3 := f2.kept k3 (by omega)
  have B4_3 : Fl (w1.heap.size + 1 + 1) bad w3 := B4_2.kept k3 (by omega)
  have B5_3 : Fl (w1.heap.size + 1 + 1 + 1) bad w3 := B5_2.kept k3 (by omega)
  have z3 := B5_3.lies
  clear hHeld
  refine hK.out _ _ ⟨B1_3, B0_3, B2_3⟩ (fun hHeld => ?_)
  clear hK K K2 B0_2 B1_2 f2 B3_2 B4_2 B5_2 k3
  refine wpAnyH_swap (S := fun w' => Arr (w.heap.size + 1) [.int .i64 p.1, .int .i64 p.2.1, .int .i64 p.2.2] w' ∧ Arr w.heap.size [.int .i64 q.1, .int .i64 q.2.1, .int .i64 q.2.2.1, .int .i64 q.2.2.2] w' ∧ Fl w1.heap.size r2.2 w' ∧ Fl (w1.heap.size + 1) r2.2 w') (fun _ h => ⟨h.1, h.2.1, h.2.2.1⟩) ?_
  clear hHeld
  have hHeld : Arr (w.heap.size + 1) [.int .i64 p.1, .int .i64 p.2.1, .int .i64 p.2.2] w3 ∧ Arr w.heap.size [.int .i64 q.1, .int .i64 q.2.1, .int .i64 q.2.2.1, .int .i64 q.2.2.2] w3 ∧ Fl w1.heap.size r2.2 w3 ∧ Fl (w1.heap.size + 1) r2.2 w3 := ⟨B1_3, B0_3, B2_3, f3⟩
  refine take_at (i := 6) (v := ?v65) rfl (by kernel_rfl) (by kernel_rfl) (by kernel_rfl) (fun _ _ _ h => h) (Or.inl ⟨by rfl, ?y65⟩) hHeld ?t65
  case y65 => (intro wx hSw; go_simp <;> with_reducible rfl)
  simp only [Act.put, List.setIfInBounds_toArray, List.set_cons_zero, List.set_cons_succ]
  refine take_at (i := 7) (v := ?v66) rfl (by kernel_rfl) (by kernel_rfl) (by kernel_rfl) (fun _ _ _ h => h) (Or.inl ⟨by rfl, ?y66⟩) hHeld ?t66
  case y66 => (intro wx hSw; go_simp <;> with_reducible rfl)
  simp only [Act.put, List.setIfInBounds_toArray, List.set_cons_zero, List.set_cons_succ]
  refine take_at (i := 8) (v := ?v67) rfl (by kernel_rfl) (by kernel_rfl) (by kernel_rfl) (fun _ _ _ h => h) (Or.inl ⟨by rfl, ?y67⟩) hHeld ?t67
  case y67 => (intro wx hSw; go_simp <;> with_reducible rfl)
  simp only [Act.put, List.setIfInBounds_toArray, List.set_cons_zero, List.set_cons_succ]
  refine take_at (i := 9) (v := ?v68) rfl (by kernel_rfl) (by kernel_rfl) (by kernel_rfl) (fun _ _ _ h => h) (Or.inl ⟨by rfl, ?y68⟩) hHeld ?t68
  case y68 => (intro wx hSw; go_simp <;> with_reducible rfl)
  simp only [Act.put, List.setIfInBounds_toArray, List.set_cons_zero, List.set_cons_succ]
  refine take_at (i := 10) (v := ?v69) rfl (by kernel_rfl) (by kernel_rfl) (by kernel_rfl) (fun _ _ _ h => h) (Or.inl ⟨by rfl, ?y69⟩) hHeld ?t69
  case y69 => (intro wx hSw; go_simp <;> with_reducible rfl)
  simp only [Act.put, List.setIfInBounds_toArray, List.set_cons_zero, List.set_cons_succ]
  refine take_at (i := 11) (v := ?v70) rfl (by kernel_rfl) (by kernel_rfl) (by kernel_rfl) (fun _ _ _ h => h) (Or.inl ⟨by rfl, ?y70⟩) hHeld ?t70
  case y70 => (intro wx hSw; have hc0 : wx.cell? ⟨w1.heap.size, 0, none⟩ = some (.bool r2.2) := hSw.2.2.1.cell; go_simp <;> with_reducible rfl)
  simp only [Act.put, List.setIfInBounds_toArray, List.set_cons_zero, List.set_cons_succ]
  refine take_at (i := 12) (v := ?v71) rfl (by kernel_rfl) (by kernel_rfl) (by kernel_rfl) (fun _ _ _ h => h) (Or.inl ⟨by rfl, ?y71⟩) hHeld ?t71
  case y71 => (intro wx hSw; go_simp <;> with_reducible rfl)
  simp only [Act.put, List.setIfInBounds_toArray, List.set_cons_zero, List.set_cons_succ]
  refine take_at (i := 13) (v := ?v72) rfl (by kernel_rfl) (by kernel_rfl) (by kernel_rfl) (fun _ _ _ h => h) (Or.inl ⟨by rfl, ?y72⟩) hHeld ?t72
  case y72 => (intro wx hSw; go_simp <;> with_reducible rfl)
  simp only [Act.put, List.setIfInBounds_toArray, List.set_cons_zero, List.set_cons_succ]
  refine take_at (i := 14) (v := ?v73) rfl (by kernel_rfl) (by kernel_rfl) (by kernel_rfl) (fun _ _ _ h => h) (Or.inl ⟨by rfl, ?y73⟩) hHeld ?t73
  case y73 => (intro wx hSw; go_simp <;> with_reducible rfl)
  simp only [Act.put, List.setIfInBounds_toArray, List.set_cons_zero, List.set_cons_succ]
  refine take_at (i := 15) (v := ?v74) rfl (by kernel_rfl) (by kernel_rfl) (by kernel_rfl) (fun _ _ _ h => h) (Or.inl ⟨by rfl, ?y74⟩) hHeld ?t74
  case y74 => (intro wx hSw; have hc0 : wx.cell? ⟨w1.heap.size + 1, 0, none⟩ = some (.bool r2.2) := hSw.2.2.2.cell; go_simp <;> with_reducible rfl)
  simp only [Act.put, List.setIfInBounds_toArray, List.set_cons_zero, List.set_cons_succ]
  refine take_at (i := 16) (v := ?v75) rfl (by kernel_rfl) (by kernel_rfl) (by kernel_rfl) (fun _ _ _ h => h) (Or.inl ⟨by rfl, ?y75⟩) hHeld ?t75
  case y75 => (intro wx hSw; go_simp <;> with_reducible rfl)
  simp only [Act.put, List.setIfInBounds_toArray, List.set_cons_zero, List.set_cons_succ]
  refine take_at (i := 17) (v := ?v76) rfl (by kernel_rfl) (by kernel_rfl) (by kernel_rfl) (fun _ _ _ h => h) (Or.inl ⟨by rfl, ?y76⟩) hHeld ?t76
  case y76 => (intro wx hSw; go_simp <;> with_reducible rfl)
  simp only [Act.put, List.setIfInBounds_toArray, List.set_cons_zero, List.set_cons_succ]
  refine take_at (i := 18) (v := ?v77) rfl (by kernel_rfl) (by kernel_rfl) (by kernel_rfl) (fun _ _ _ h => h) (Or.inl ⟨by rfl, ?y77⟩) hHeld ?t77
  case y77 => (intro wx hSw; go_simp <;> with_reducible rfl)
  simp only [Act.put, List.setIfInBounds_toArray, List.set_cons_zero, List.set_cons_succ]
  refine take_at (i := 19) (v := ?v78) rfl (by kernel_rfl) (by kernel_rfl) (by kernel_rfl) (fun _ _ _ h => h) (Or.inl ⟨by rfl, ?y78⟩) hHeld ?t78
  case y78 => (intro wx hSw; go_simp <;> with_reducible rfl)
  simp only [Act.put, List.setIfInBounds_toArray, List.set_cons_zero, List.set_cons_succ]
  refine take_at (i := 20) (v := ?v79) rfl (by kernel_rfl) (by kernel_rfl) (by kernel_rfl) (fun _ _ _ h => h) (Or.inl ⟨by rfl, ?y79⟩) hHeld ?t79
  case y79 => (intro wx hSw; have hc0 : wx.cell? ⟨w.heap.size, 0, none⟩ = some (.int .i64 q.1) := hSw.2.1.c 0 (of_decide_eq_true rfl); have hc1 : wx.cell? ⟨w.heap.size, 1, none⟩ = some (.int .i64 q.2.1) := hSw.2.1.c 1 (of_decide_eq_true rfl); have hc2 : wx.cell? ⟨w.heap.size, 2, none⟩ = some (.int .i64 q.2.2.1) := hSw.2.1.c 2 (of_decide_eq_true rfl); have hc3 : wx.cell? ⟨w.heap.size, 3, none⟩ = some (.int .i64 q.2.2.2) := hSw.2.1.c 3 (of_decide_eq_true rfl); go_simp <;> with_reducible rfl)
  simp only [Act.put, List.setIfInBounds_toArray, List.set_cons_zero, List.set_cons_succ]
  refine take_at (i := 22) (v := ?v80) rfl (by kernel_rfl) (by kernel_rfl) (by kernel_rfl) (fun _ _ _ h => h) (Or.inl ⟨by rfl, ?y80⟩) hHeld ?t80
  case y80 => (intro wx hSw; go_simp <;> with_reducible rfl)
  simp only [Act.put, List.setIfInBounds_toArray, List.set_cons_zero, List.set_cons_succ]
  refine take_at (i := 23) (v := ?v81) rfl (by kernel_rfl) (by kernel_rfl) (by kernel_rfl) (fun _ _ _ h => h) (Or.inl ⟨by rfl, ?y81⟩) hHeld ?t81
  case y81 => (intro wx hSw; have hc0 : wx.cell? ⟨w.heap.size, 0, none⟩ = some (.int .i64 q.1) := hSw.2.1.c 0 (of_decide_eq_true rfl); have hc1 : wx.cell? ⟨w.heap.size, 1, none⟩ = some (.int .i64 q.2.1) := hSw.2.1.c 1 (of_decide_eq_true rfl); have hc2 : wx.cell? ⟨w.heap.size, 2, none⟩ = some (.int .i64 q.2.2.1) := hSw.2.1.c 2 (of_decide_eq_true rfl); have hc3 : wx.cell? ⟨w.heap.size, 3, none⟩ = some (.int .i64 q.2.2.2) := hSw.2.1.c 3 (of_decide_eq_true rfl); go_simp <;> with_reducible rfl)
  simp only [Act.put, List.setIfInBounds_toArray, List.set_cons_zero, List.set_cons_succ]
  refine call_at (i := 21) (by kernel_rfl) rfl (fun K hK => ?_)
  go_simp
  refine (qToRod_any (w1.heap.size + 1 + 1) bad q _ B4_3).mono ?_
  rintro e w4 ⟨rfl, f4, k4⟩
  generalize e4 : qToRodS bad q = r4 at f4 ⊢
  have E4 : Hid _ := e4
  clear e4
  have K4 : Below w.heap.size w w4 := k4.on K3 (by omega)
  have B0_4 : Arr w.heap.size [.int .i64 q.1, .int .i64 q.2.1, .int .i64 q.2.2.1, .int .i64 q.2.2.2] w4 := B0_3.kept k4 (by omega)
  have B1_4 : Arr (w.heap.size + 1) [.int .i64 p.1, .int .i64 p.2.1, .int .i64 p.2.2] w4 := B1_3.kept k4 (by omega)
  have B2_4 : Fl w1.heap.size r2.2 w4 := B2_3.kept k4 (by omega)
  have B3_4 : Fl (w1.heap.size + 1) r2.2 w4 := f3.kept k4 (by omega)
  have B5_4 : Fl (w1.heap.size + 1 + 1 + 1) bad w4 := B5_3.kept k4 (by omega)
  have z4 := B5_4.lies
  clear hHeld
  refine hK.out _ _ ⟨B1_4, B0_4, B2_4, B3_4⟩ (fun hHeld => ?_)
  clear hK K K3 B0_3 B1_3 B2_3 f3 B4_3 B5_3 k4
  refine wpAnyH_swap (S := fun w' => Arr (w.heap.size + 1) [.int .i64 p.1, .int .i64 p.2.1, .int .i64 p.2.2] w' ∧ Arr w.heap.size [.int .i64 q.1, .int .i64 q.2.1, .int .i64 q.2.2.1, .int .i64 q.2.2.2] w' ∧ Fl w1.heap.size r2.2 w' ∧ Fl (w1.heap.size + 1) r2.2 w' ∧ Fl (w1.heap.size + 1 + 1) r4.2 w') (fun _ h => ⟨h.1, h.2.1, h.2.2.1, h.2.2.2.1⟩) ?_
  clear hHeld
  have hHeld : Arr (w.heap.size + 1) [.int .i64 p.1, .int .i64 p.2.1, .int .i64 p.2.2] w4 ∧ Arr w.heap.size [.int .i64 q.1, .int .i64 q.2.1, .int .i64 q.2.2.1, .int .i64 q.2.2.2] w4 ∧ Fl w1.heap.size r2.2 w4 ∧ Fl (w1.heap.size + 1) r2.2 w4 ∧ Fl (w1.heap.size + 1 + 1) r4.2 w4 := ⟨B1_4, B0_4, B2_4, B3_4, f4⟩
  refine call_at (i := 24) (by kernel_rfl) rfl (fun K hK => ?_)
  go_simp
  refine (yToRod_any (w1.heap.size + 1 + 1 + 1) bad q _ B5_4).mono ?_
  rintro e w5 ⟨rfl, f5, k5⟩
  rw [E4.out] at f5 ⊢
  have K5 : Below w.heap.size w w5 := k5.on K4 (by omega)
  have B0_5 : Arr w.heap.size [.int .i64 q.1, .int .i64 q.2.1, .int .i64 q.2.2.1, .int .i64 q.2.2.2] w5 := B0_4.kept k5 (by omega)
  have B1_5 : Arr (w.heap.size + 1) [.int .i64 p.1, .int .i64 p.2.1, .int .i64 p.2.2] w5 := B1_4.kept k5 (by omega)
  have B2_5 : Fl w1.heap.size r2.2 w5 := B2_4.kept k5 (by omega)
  have B3_5 : Fl (w1.heap.size + 1) r2.2 w5 := B3_4.kept k5 (by omega)
  have B4_5 : Fl (w1.heap.size + 1 + 1) r4.2 w5 := f4.kept k5 (by omega)
  have z5 := f5.lies
  clear hHeld
  refine hK.out _ _ ⟨B1_5, B0_5, B2_5, B3_5, B4_5⟩ (fun hHeld => ?_)
  clear hK K K4 B0_4 B1_4 B2_4 B3_4 f4 B5_4 k5
  refine wpAnyH_swap (S := fun w' => Arr (w.heap.size + 1) [.int .i64 p.1, .int .i64 p.2.1, .int .i64 p.2.2] w' ∧ Arr w.heap.size [.int .i64 q.1, .int .i64 q.2.1, .int .i64 q.2.2.1, .int .i64 q.2.2.2] w' ∧ Fl w1.heap.size r2.2 w' ∧ Fl (w1.heap.size + 1) r2.2 w' ∧ Fl (w1.heap.size + 1 + 1) r4.2 w' ∧ Fl (w1.heap.size + 1 + 1 + 1) r4.2 w') (fun _ h => ⟨h.1, h.2.1, h.2.2.1, h.2.2.2.1, h.2.2.2.2.1⟩) ?_
  clear hHeld
  have hHeld : Arr (w.heap.size + 1) [.int .i64 p.1, .int .i64 p.2.1, .int .i64 p.2.2] w5 ∧ Arr w.heap.size [.int .i64 q.1, .int .i64 q.2.1, .int .i64 q.2.2.1, .int .i64 q.2.2.2] w5 ∧ Fl w1.heap.size r2.2 w5 ∧ Fl (w1.heap.size + 1) r2.2 w5 ∧ Fl (w1.heap.size + 1 + 1) r4.2 w5 ∧ Fl (w1.heap.size + 1 + 1 + 1) r4.2 w5 := ⟨B1_5, B0_5, B2_5, B3_5, B4_5, f5⟩
  refine take_at (i := 25) (v := ?v82) rfl (by kernel_rfl) (by kernel_rfl) (by kernel_rfl) (fun _ _ _ h => h) (Or.inl ⟨by rfl, ?y82⟩) hHeld ?t82
  case y82 => (intro wx hSw; go_simp <;> with_reducible rfl)
  simp only [Act.put, List.setIfInBounds_toArray, List.set_cons_zero, List.set_cons_succ]
  refine take_at (i := 26) (v := ?v83) rfl (by kernel_rfl) (by kernel_rfl) (by kernel_rfl) (fun _ _ _ h => h) (Or.inl ⟨by rfl, ?y83⟩) hHeld ?t83
  case y83 => (intro wx hSw; go_simp <;> with_reducible rfl)
  simp only [Act.put, List.setIfInBounds_toArray, List.set_cons_zero, List.set_cons_succ]
  refine take_at (i := 27) (v := ?v84) rfl (by kernel_rfl) (by kernel_rfl) (by kernel_rfl) (fun _ _ _ h => h) (Or.inl ⟨by rfl, ?y84⟩) hHeld ?t84
  case y84 => (intro wx hSw; go_simp <;> with_reducible rfl)
  simp only [Act.put, List.setIfInBounds_toArray, List.set_cons_zero, List.set_cons_succ]
  refine take_at (i := 28) (v := ?v85) rfl (by kernel_rfl) (by kernel_rfl) (by kernel_rfl) (fun _ _ _ h => h) (Or.inl ⟨by rfl, ?y85⟩) hHeld ?t85
  case y85 => (intro wx hSw; go_simp <;> with_reducible rfl)
  simp only [Act.put, List.setIfInBounds_toArray, List.set_cons_zero, List.set_cons_succ]
  refine take_at (i := 29) (v := ?v86) rfl (by kernel_rfl) (by kernel_rfl) (by kernel_rfl) (fun _ _ _ h => h) (Or.inl ⟨by rfl, ?y86⟩) hHeld ?t86
  case y86 => (intro wx hSw; go_simp <;> with_reducible rfl)
  simp only [Act.put, List.setIfInBounds_toArray, List.set_cons_zero, List.set_cons_succ]
  refine take_at (i := 30) (v := ?v87) rfl (by kernel_rfl) (by kernel_rfl) (by kernel_rfl) (fun _ _ _ h => h) (Or.inl ⟨by rfl, ?y87⟩) hHeld ?t87
  case y87 => (intro wx hSw; go_simp <;> with_reducible rfl)
  simp only [Act.put, List.setIfInBounds_toArray, List.set_cons_zero, List.set_cons_succ]
  refine take_at (i := 31) (v := ?v88) rfl (by kernel_rfl) (by kernel_rfl) (by kernel_rfl) (fun _ _ _ h => h) (Or.inl ⟨by rfl, ?y88⟩) hHeld ?t88
  case y88 => (intro wx hSw; have hc0 : wx.cell? ⟨w1.heap.size + 1 + 1, 0, none⟩ = some (.bool r4.2) := hSw.2.2.2.2.1.cell; go_simp <;> with_reducible rfl)
  simp only [Act.put, List.setIfInBounds_toArray, List.set_cons_zero, List.set_cons_succ]
  refine take_at (i := 32) (v := ?v89) rfl (by kernel_rfl) (by kernel_rfl) (by kernel_rfl) (fun _ _ _ h => h) (Or.inl ⟨by rfl, ?y89⟩) hHeld ?t89
  case y89 => (intro wx hSw; go_simp <;> with_reducible rfl)
  simp only [Act.put, List.setIfInBounds_toArray, List.set_cons_zero, List.set_cons_succ]
  refine take_at (i := 33) (v := ?v90) rfl (by kernel_rfl) (by kernel_rfl) (by kernel_rfl) (fun _ _ _ h => h) (Or.inl ⟨by rfl, ?y90⟩) hHeld ?t90
  case y90 => (intro wx hSw; go_simp <;> with_reducible rfl)
  simp only [Act.put, List.setIfInBounds_toArray, List.set_cons_zero, List.set_cons_succ]
  refine take_at (i := 34) (v := ?v91) rfl (by kernel_rfl) (by kernel_rfl) (by kernel_rfl) (fun _ _ _ h => h) (Or.inl ⟨by rfl, ?y91⟩) hHeld ?t91
  case y91 => (intro wx hSw; go_simp <;> with_reducible rfl)
  simp only [Act.put, List.setIfInBounds_toArray, List.set_cons_zero, List.set_cons_succ]
  refine take_at (i := 35) (v := ?v92) rfl (by kernel_rfl) (by kernel_rfl) (by kernel_rfl) (fun _ _ _ h => h) (Or.inl ⟨by rfl, ?y92⟩) hHeld ?t92
  case y92 => (intro wx hSw; have hc0 : wx.cell? ⟨w1.heap.size + 1 + 1 + 1, 0, none⟩ = some (.bool r4.2) := hSw.2.2.2.2.2.cell; go_simp <;> with_reducible rfl)
  simp only [Act.put, List.setIfInBounds_toArray, List.set_cons_zero, List.set_cons_succ]
  refine take_at (i := 36) (v := ?v93) rfl (by kernel_rfl) (by kernel_rfl) (by kernel_rfl) (fun _ _ _ h => h) (Or.inl ⟨by rfl, ?y93⟩) hHeld ?t93
  case y93 => (intro wx hSw; go_simp <;> with_reducible rfl)
  simp only [Act.put, List.setIfInBounds_toArray, List.set_cons_zero, List.set_cons_succ]
  refine take_at (i := 37) (v := ?v94) rfl (by kernel_rfl) (by kernel_rfl) (by kernel_rfl) (fun _ _ _ h => h) (Or.inl ⟨by rfl, ?y94⟩) hHeld ?t94
  case y94 => (intro wx hSw; go_simp <;> with_reducible rfl)
  simp only [Act.put, List.setIfInBounds_toArray, List.set_cons_zero, List.set_cons_succ]
  refine take_at (i := 38) (v := ?v95) rfl (by kernel_rfl) (by kernel_rfl) (by kernel_rfl) (fun _ _ _ h => h) (Or.inl ⟨by rfl, ?y95⟩) hHeld ?t95
  case y95 => (intro wx hSw; go_simp <;> with_reducible rfl)
  simp only [Act.put, List.setIfInBounds_toArray, List.set_cons_zero, List.set_cons_succ]
  refine wpAnyH_done (by kernel_rfl) ?_ _
  clear hHeld
  go_wp2
  go_ret
  exact ⟨rfl, K5⟩
end Go.Proofs.Yteooceapkkdcpaa
