/-
  Walks of package quat's matrices, for the seat Ytkeijfbpkdelpaa. (Made by mkquat2.py.)
-/
import Derived.Test.YtkeijfbpkdelpaaQMBy
import Derived.Test.YtkeijfbpkdelpaaQUnit
import Derived.Handy
import Derived.Deep.RegionHeld3
namespace Go.Proofs.Ytkeijfbpkdelpaa
open Go.RowKit

@[go_sem] theorem run_max_int4 {P : Program} {w : World} (ts : Array TypeId) (t : TypeId) (k k' k'' k3 : IntKind) (x y z u : Int) : (Builtin.max_ ts t #[.int k x, .int k' y, .int k'' z, .int k3 u]).run P w = .ok (.int k (max4 x y z u)) w := by
  simp [Builtin.max_, Builtin.max2, max4]
set_option maxRecDepth 100000 in
set_option maxHeartbeats 2000000 in
theorem qFromMatrix_any (b : Nat) (bad : Bool) (m : V9) (w : World) (hw : Fl b bad w) :
    Calls Try.prog 22 #[.pointer (some ⟨b, 0, none⟩), .agg #[.int .i64 m.1, .int .i64 m.2.1, .int .i64 m.2.2.1, .int .i64 m.2.2.2.1, .int .i64 m.2.2.2.2.1, .int .i64 m.2.2.2.2.2.1, .int .i64 m.2.2.2.2.2.2.1, .int .i64 m.2.2.2.2.2.2.2.1, .int .i64 m.2.2.2.2.2.2.2.2]] w fun e w' => e = .returned (.agg #[.int .i64 ((qFromMatrixS bad m).1.1), .int .i64 ((qFromMatrixS bad m).1.2.1), .int .i64 ((qFromMatrixS bad m).1.2.2.1), .int .i64 ((qFromMatrixS bad m).1.2.2.2)]) ∧ Fl b (qFromMatrixS bad m).2 w' ∧ Kept b w w' := by
  have hl := hw.lies
  go_enter Try.func22, Try.ntmps22
  go_wp2_with fail
  refine wp_region_held_drew (S := fun w' => Arr w.heap.size [.int .i64 m.1, .int .i64 m.2.1, .int .i64 m.2.2.1, .int .i64 m.2.2.2.1, .int .i64 m.2.2.2.2.1, .int .i64 m.2.2.2.2.2.1, .int .i64 m.2.2.2.2.2.2.1, .int .i64 m.2.2.2.2.2.2.2.1, .int .i64 m.2.2.2.2.2.2.2.2] w') (by kernel_rfl) ((Arr_at _ _ [.int .i64 m.1, .int .i64 m.2.1, .int .i64 m.2.2.1, .int .i64 m.2.2.2.1, .int .i64 m.2.2.2.2.1, .int .i64 m.2.2.2.2.2.1, .int .i64 m.2.2.2.2.2.2.1, .int .i64 m.2.2.2.2.2.2.2.1, .int .i64 m.2.2.2.2.2.2.2.2] _ (by simp)).alloc _).drew (fun hHeld => ?_)
  refine take_at (i := 0) (v := ?v127) rfl (by kernel_rfl) (by kernel_rfl) (by kernel_rfl) (fun _ _ _ h => h) (Or.inl ⟨by rfl, ?y127⟩) hHeld ?t127
  case y127 => (intro wx hSw; go_simp <;> with_reducible rfl)
  simp only [Act.put, List.setIfInBounds_toArray, List.set_cons_zero, List.set_cons_succ]
  refine take_at (i := 1) (v := ?v128) rfl (by kernel_rfl) (by kernel_rfl) (by kernel_rfl) (fun _ _ _ h => h) (Or.inl ⟨by rfl, ?y128⟩) hHeld ?t128
  case y128 => (intro wx hSw; go_simp <;> with_reducible rfl)
  simp only [Act.put, List.setIfInBounds_toArray, List.set_cons_zero, List.set_cons_succ]
  refine take_at (i := 2) (v := ?v129) rfl (by kernel_rfl) (by kernel_rfl) (by kernel_rfl) (fun _ _ _ h => h) (Or.inl ⟨by rfl, ?y129⟩) hHeld ?t129
  case y129 => (intro wx hSw; go_simp <;> with_reducible rfl)
  simp only [Act.put, List.setIfInBounds_toArray, List.set_cons_zero, List.set_cons_succ]
  refine take_at (i := 3) (v := ?v130) rfl (by kernel_rfl) (by kernel_rfl) (by kernel_rfl) (fun _ _ _ h => h) (Or.inl ⟨by rfl, ?y130⟩) hHeld ?t130
  case y130 => (intro wx hSw; go_simp <;> with_reducible rfl)
  simp only [Act.put, List.setIfInBounds_toArray, List.set_cons_zero, List.set_cons_succ]
  refine take_at (i := 4) (v := ?v131) rfl (by kernel_rfl) (by kernel_rfl) (by kernel_rfl) (fun _ _ _ h => h) (Or.inl ⟨by rfl, ?y131⟩) hHeld ?t131
  case y131 => (intro wx hSw; have hc0 : wx.cell? ⟨w.heap.size, 0, none⟩ = some (.int .i64 m.1) := hSw.c 0 (of_decide_eq_true rfl); go_simp <;> with_reducible rfl)
  simp only [Act.put, List.setIfInBounds_toArray, List.set_cons_zero, List.set_cons_succ]
  refine take_at (i := 5) (v := ?v132) rfl (by kernel_rfl) (by kernel_rfl) (by kernel_rfl) (fun _ _ _ h => h) (Or.inl ⟨by rfl, ?y132⟩) hHeld ?t132
  case y132 => (intro wx hSw; go_simp <;> with_reducible rfl)
  simp only [Act.put, List.setIfInBounds_toArray, List.set_cons_zero, List.set_cons_succ]
  refine take_at (i := 6) (v := ?v133) rfl (by kernel_rfl) (by kernel_rfl) (by kernel_rfl) (fun _ _ _ h => h) (Or.inl ⟨by rfl, ?y133⟩) hHeld ?t133
  case y133 => (intro wx hSw; go_simp <;> with_reducible rfl)
  simp only [Act.put, List.setIfInBounds_toArray, List.set_cons_zero, List.set_cons_succ]
  refine take_at (i := 7) (v := ?v134) rfl (by kernel_rfl) (by kernel_rfl) (by kernel_rfl) (fun _ _ _ h => h) (Or.inl ⟨by rfl, ?y134⟩) hHeld ?t134
  case y134 => (intro wx hSw; have hc4 : wx.cell? ⟨w.heap.size, 4, none⟩ = some (.int .i64 m.2.2.2.2.1) := hSw.c 4 (of_decide_eq_true rfl); go_simp <;> with_reducible rfl)
  simp only [Act.put, List.setIfInBounds_toArray, List.set_cons_zero, List.set_cons_succ]
  refine take_at (i := 9) (v := ?v135) rfl (by kernel_rfl) (by kernel_rfl) (by kernel_rfl) (fun _ _ _ h => h) (Or.inl ⟨by rfl, ?y135⟩) hHeld ?t135
  case y135 => (intro wx hSw; go_simp <;> with_reducible rfl)
  simp only [Act.put, List.setIfInBounds_toArray, List.set_cons_zero, List.set_cons_succ]
  refine take_at (i := 10) (v := ?v136) rfl (by kernel_rfl) (by kernel_rfl) (by kernel_rfl) (fun _ _ _ h => h) (Or.inl ⟨by rfl, ?y136⟩) hHeld ?t136
  case y136 => (intro wx hSw; go_simp <;> with_reducible rfl)
  simp only [Act.put, List.setIfInBounds_toArray, List.set_cons_zero, List.set_cons_succ]
  refine take_at (i := 11) (v := ?v137) rfl (by kernel_rfl) (by kernel_rfl) (by kernel_rfl) (fun _ _ _ h => h) (Or.inl ⟨by rfl, ?y137⟩) hHeld ?t137
  case y137 => (intro wx hSw; have hc8 : wx.cell? ⟨w.heap.size, 8, none⟩ = some (.int .i64 m.2.2.2.2.2.2.2.2) := hSw.c 8 (of_decide_eq_true rfl); go_simp <;> with_reducible rfl)
  simp only [Act.put, List.setIfInBounds_toArray, List.set_cons_zero, List.set_cons_succ]
  refine call_at (i := 8) (by kernel_rfl) rfl (fun K hK => ?_)
  go_simp
  refine (Add_any b bad m.1 m.2.2.2.2.1 _ ((hw.alloc _).alloc _).drew).mono ?_
  rintro e w1 ⟨rfl, f1, k1⟩
  generalize e1 : addS bad m.1 m.2.2.2.2.1 = r1 at f1 ⊢
  have E1 : Hid _ := e1
  clear e1
  have K1 : Kept b w w1 := Kept.trans (((Kept.refl b w).al _).al _).drew k1
  have B0_1 : Arr w.heap.size [.int .i64 m.1, .int .i64 m.2.1, .int .i64 m.2.2.1, .int .i64 m.2.2.2.1, .int .i64 m.2.2.2.2.1, .int .i64 m.2.2.2.2.2.1, .int .i64 m.2.2.2.2.2.2.1, .int .i64 m.2.2.2.2.2.2.2.1, .int .i64 m.2.2.2.2.2.2.2.2] w1 := ((Arr_at _ _ [.int .i64 m.1, .int .i64 m.2.1, .int .i64 m.2.2.1, .int .i64 m.2.2.2.1, .int .i64 m.2.2.2.2.1, .int .i64 m.2.2.2.2.2.1, .int .i64 m.2.2.2.2.2.2.1, .int .i64 m.2.2.2.2.2.2.2.1, .int .i64 m.2.2.2.2.2.2.2.2] _ (by simp)).alloc _).drew.kept k1 (by omega)
  have B1_1 : Arr (w.heap.size + 1) [.int .i64 0, .int .i64 0, .int .i64 0, .int .i64 0] w1 := (Arr_at _ _ [.int .i64 0, .int .i64 0, .int .i64 0, .int .i64 0] _ (by simp)).drew.kept k1 (by omega)
  have z1 := B1_1.lies
  clear hHeld
  refine hK.out _ _ B0_1 (fun hHeld => ?_)
  clear hK K k1
  refine call_at (i := 12) (by kernel_rfl) rfl (fun K hK => ?_)
  go_simp
  refine (Add_any b r1.2 r1.1 m.2.2.2.2.2.2.2.2 _ f1).mono ?_
  rintro e w2 ⟨rfl, f2, k2⟩
  generalize e2 : addS r1.2 r1.1 m.2.2.2.2.2.2.2.2 = r2 at f2 ⊢
  have E2 : Hid _ := e2
  clear e2
  have K2 : Kept b w w2 := Kept.trans K1 k2
  have B0_2 : Arr w.heap.size [.int .i64 m.1, .int .i64 m.2.1, .int .i64 m.2.2.1, .int .i64 m.2.2.2.1, .int .i64 m.2.2.2.2.1, .int .i64 m.2.2.2.2.2.1, .int .i64 m.2.2.2.2.2.2.1, .int .i64 m.2.2.2.2.2.2.2.1, .int .i64 m.2.2.2.2.2.2.2.2] w2 := B0_1.kept k2 (by omega)
  have B1_2 : Arr (w.heap.size + 1) [.int .i64 0, .int .i64 0, .int .i64 0, .int .i64 0] w2 := B1_1.kept k2 (by omega)
  have z2 := B1_2.lies
  clear hHeld
  refine hK.out _ _ B0_2 (fun hHeld => ?_)
  clear hK K K1 f1 B0_1 B1_1 k2
  refine take_at (i := 13) (v := ?v138) rfl (by kernel_rfl) (by kernel_rfl) (by kernel_rfl) (fun _ _ _ h => h) (Or.inl ⟨by rfl, ?y138⟩) hHeld ?t138
  case y138 => (intro wx hSw; go_simp <;> with_reducible rfl)
  simp only [Act.put, List.setIfInBounds_toArray, List.set_cons_zero, List.set_cons_succ]
  refine wpAnyH_done (by kernel_rfl) ?_ _
  clear hHeld
  by_cases hc1 : (max4 r2.1 m.1 m.2.2.2.2.1 m.2.2.2.2.2.2.2.2) = r2.1
  · have Hhc1 : Hid ((max4 r2.1 m.1 m.2.2.2.2.1 m.2.2.2.2.2.2.2.2) = r2.1) := hc1
    have c2_B0_0 : w2.cell? ⟨w.heap.size, 0, none⟩ = some (.int .i64 m.1) := B0_2.c 0 (of_decide_eq_true rfl)
    have c2_B0_1 : w2.cell? ⟨w.heap.size, 1, none⟩ = some (.int .i64 m.2.1) := B0_2.c 1 (of_decide_eq_true rfl)
    have c2_B0_2 : w2.cell? ⟨w.heap.size, 2, none⟩ = some (.int .i64 m.2.2.1) := B0_2.c 2 (of_decide_eq_true rfl)
    have c2_B0_3 : w2.cell? ⟨w.heap.size, 3, none⟩ = some (.int .i64 m.2.2.2.1) := B0_2.c 3 (of_decide_eq_true rfl)
    have c2_B0_4 : w2.cell? ⟨w.heap.size, 4, none⟩ = some (.int .i64 m.2.2.2.2.1) := B0_2.c 4 (of_decide_eq_true rfl)
    have c2_B0_5 : w2.cell? ⟨w.heap.size, 5, none⟩ = some (.int .i64 m.2.2.2.2.2.1) := B0_2.c 5 (of_decide_eq_true rfl)
    have c2_B0_6 : w2.cell? ⟨w.heap.size, 6, none⟩ = some (.int .i64 m.2.2.2.2.2.2.1) := B0_2.c 6 (of_decide_eq_true rfl)
    have c2_B0_7 : w2.cell? ⟨w.heap.size, 7, none⟩ = some (.int .i64 m.2.2.2.2.2.2.2.1) := B0_2.c 7 (of_decide_eq_true rfl)
    have c2_B0_8 : w2.cell? ⟨w.heap.size, 8, none⟩ = some (.int .i64 m.2.2.2.2.2.2.2.2) := B0_2.c 8 (of_decide_eq_true rfl)
    go_wp2_with fail
    refine (qbyW_any b r2.2 m r2.1 _ f2).mono ?_
    rintro e w3 ⟨rfl, f3, k3⟩
    generalize e3 : qbyWS r2.2 m r2.1 = r3 at f3 ⊢
    have E3 : Hid _ := e3
    clear e3
    have K3 : Kept b w w3 := Kept.trans K2 k3
    have B0_3 : Arr w.heap.size [.int .i64 m.1, .int .i64 m.2.1, .int .i64 m.2.2.1, .int .i64 m.2.2.2.1, .int .i64 m.2.2.2.2.1, .int .i64 m.2.2.2.2.2.1, .int .i64 m.2.2.2.2.2.2.1, .int .i64 m.2.2.2.2.2.2.2.1, .int .i64 m.2.2.2.2.2.2.2.2] w3 := B0_2.kept k3 (by omega)
    have B1_3 : Arr (w.heap.size + 1) [.int .i64 0, .int .i64 0, .int .i64 0, .int .i64 0] w3 := B1_2.kept k3 (by omega)
    have z3 := B1_3.lies
    clear c2_B0_0 c2_B0_1 c2_B0_2 c2_B0_3 c2_B0_4 c2_B0_5 c2_B0_6 c2_B0_7 c2_B0_8 K2 f2 B0_2 B1_2 k3
    go_wp2_with fail
    refine (qUnit_any b r3.2 r3.1 _ f3).mono ?_
    rintro e w4 ⟨rfl, f4, k4⟩
    generalize e4 : qUnitS r3.2 r3.1 = r4 at f4 ⊢
    have E4 : Hid _ := e4
    clear e4
    have K4 : Kept b w w4 := Kept.trans K3 k4
    have B0_4 : Arr w.heap.size [.int .i64 m.1, .int .i64 m.2.1, .int .i64 m.2.2.1, .int .i64 m.2.2.2.1, .int .i64 m.2.2.2.2.1, .int .i64 m.2.2.2.2.2.1, .int .i64 m.2.2.2.2.2.2.1, .int .i64 m.2.2.2.2.2.2.2.1, .int .i64 m.2.2.2.2.2.2.2.2] w4 := B0_3.kept k4 (by omega)
    have B1_4 : Arr (w.heap.size + 1) [.int .i64 0, .int .i64 0, .int .i64 0, .int .i64 0] w4 := B1_3.kept k4 (by omega)
    have z4 := B1_4.lies
    clear K3 f3 B0_3 B1_3 k4
    have c4_B1_0 : w4.cell? ⟨w.heap.size + 1, 0, none⟩ = some (.int .i64 0) := B1_4.c 0 (of_decide_eq_true rfl)
    have c4_B1_1 : w4.cell? ⟨w.heap.size + 1, 1, none⟩ = some (.int .i64 0) := B1_4.c 1 (of_decide_eq_true rfl)
    have c4_B1_2 : w4.cell? ⟨w.heap.size + 1, 2, none⟩ = some (.int .i64 0) := B1_4.c 2 (of_decide_eq_true rfl)
    have c4_B1_3 : w4.cell? ⟨w.heap.size + 1, 3, none⟩ = some (.int .i64 0) := B1_4.c 3 (of_decide_eq_true rfl)
    have g4_B1_0 := B1_4.f 0 (of_decide_eq_true rfl)
    have g4_B1_1 := B1_4.f 1 (of_decide_eq_true rfl)
    have g4_B1_2 := B1_4.f 2 (of_decide_eq_true rfl)
    have g4_B1_3 := B1_4.f 3 (of_decide_eq_true rfl)
    go_wp2
    clear c4_B1_0 c4_B1_1 c4_B1_2 c4_B1_3 g4_B1_0 g4_B1_1 g4_B1_2 g4_B1_3
    have d0 := Arr.c (B1_4.put 0 (of_decide_eq_true rfl) (.int .i64 r4.1.1) [.int .i64 r4.1.1, .int .i64 0, .int .i64 0, .int .i64 0] rfl) 0 (of_decide_eq_true rfl)
    have d1 := Arr.c ((B1_4.put 0 (of_decide_eq_true rfl) (.int .i64 r4.1.1) [.int .i64 r4.1.1, .int .i64 0, .int .i64 0, .int .i64 0] rfl).put 1 (of_decide_eq_true rfl) (.int .i64 r4.1.2.1) [.int .i64 r4.1.1, .int .i64 r4.1.2.1, .int .i64 0, .int .i64 0] rfl) 1 (of_decide_eq_true rfl)
    have d2 := Arr.c (((B1_4.put 0 (of_decide_eq_true rfl) (.int .i64 r4.1.1) [.int .i64 r4.1.1, .int .i64 0, .int .i64 0, .int .i64 0] rfl).put 1 (of_decide_eq_true rfl) (.int .i64 r4.1.2.1) [.int .i64 r4.1.1, .int .i64 r4.1.2.1, .int .i64 0, .int .i64 0] rfl).put 2 (of_decide_eq_true rfl) (.int .i64 r4.1.2.2.1) [.int .i64 r4.1.1, .int .i64 r4.1.2.1, .int .i64 r4.1.2.2.1, .int .i64 0] rfl) 2 (of_decide_eq_true rfl)
    have d3 := Arr.c ((((B1_4.put 0 (of_decide_eq_true rfl) (.int .i64 r4.1.1) [.int .i64 r4.1.1, .int .i64 0, .int .i64 0, .int .i64 0] rfl).put 1 (of_decide_eq_true rfl) (.int .i64 r4.1.2.1) [.int .i64 r4.1.1, .int .i64 r4.1.2.1, .int .i64 0, .int .i64 0] rfl).put 2 (of_decide_eq_true rfl) (.int .i64 r4.1.2.2.1) [.int .i64 r4.1.1, .int .i64 r4.1.2.1, .int .i64 r4.1.2.2.1, .int .i64 0] rfl).put 3 (of_decide_eq_true rfl) (.int .i64 r4.1.2.2.2) [.int .i64 r4.1.1, .int .i64 r4.1.2.1, .int .i64 r4.1.2.2.1, .int .i64 r4.1.2.2.2] rfl) 3 (of_decide_eq_true rfl)
    refine bodyPost_ret (v := .agg #[.int .i64 r4.1.1, .int .i64 r4.1.2.1, .int .i64 r4.1.2.2.1, .int .i64 r4.1.2.2.2]) (by simp [results, Try.results22, go_sem, d0, d1, d2, d3]) rfl ?_
    have hs : qFromMatrixS bad m = (r4.1, r4.2) := by unfold qFromMatrixS; simp only [E1.out, E2.out, E3.out, E4.out]; rw [if_pos (by have := Hhc1.out; omega)]
    rw [hs]
    exact ⟨rfl, ((((f4.new (w.heap.size + 1) 0 (by omega) (.int .i64 r4.1.1)).new (w.heap.size + 1) 1 (by omega) (.int .i64 r4.1.2.1)).new (w.heap.size + 1) 2 (by omega) (.int .i64 r4.1.2.2.1)).new (w.heap.size + 1) 3 (by omega) (.int .i64 r4.1.2.2.2)), ((((K4.new _ _ (by omega) _).new _ _ (by omega) _).new _ _ (by omega) _).new _ _ (by omega) _)⟩
  · have Hhc1 : Hid (¬ (max4 r2.1 m.1 m.2.2.2.2.1 m.2.2.2.2.2.2.2.2) = r2.1) := hc1
    by_cases hc2 : (max4 r2.1 m.1 m.2.2.2.2.1 m.2.2.2.2.2.2.2.2) = m.1
    · have Hhc2 : Hid ((max4 r2.1 m.1 m.2.2.2.2.1 m.2.2.2.2.2.2.2.2) = m.1) := hc2
      have c2_B0_0 : w2.cell? ⟨w.heap.size, 0, none⟩ = some (.int .i64 m.1) := B0_2.c 0 (of_decide_eq_true rfl)
      have c2_B0_1 : w2.cell? ⟨w.heap.size, 1, none⟩ = some (.int .i64 m.2.1) := B0_2.c 1 (of_decide_eq_true rfl)
      have c2_B0_2 : w2.cell? ⟨w.heap.size, 2, none⟩ = some (.int .i64 m.2.2.1) := B0_2.c 2 (of_decide_eq_true rfl)
      have c2_B0_3 : w2.cell? ⟨w.heap.size, 3, none⟩ = some (.int .i64 m.2.2.2.1) := B0_2.c 3 (of_decide_eq_true rfl)
      have c2_B0_4 : w2.cell? ⟨w.heap.size, 4, none⟩ = some (.int .i64 m.2.2.2.2.1) := B0_2.c 4 (of_decide_eq_true rfl)
      have c2_B0_5 : w2.cell? ⟨w.heap.size, 5, none⟩ = some (.int .i64 m.2.2.2.2.2.1) := B0_2.c 5 (of_decide_eq_true rfl)
      have c2_B0_6 : w2.cell? ⟨w.heap.size, 6, none⟩ = some (.int .i64 m.2.2.2.2.2.2.1) := B0_2.c 6 (of_decide_eq_true rfl)
      have c2_B0_7 : w2.cell? ⟨w.heap.size, 7, none⟩ = some (.int .i64 m.2.2.2.2.2.2.2.1) := B0_2.c 7 (of_decide_eq_true rfl)
      have c2_B0_8 : w2.cell? ⟨w.heap.size, 8, none⟩ = some (.int .i64 m.2.2.2.2.2.2.2.2) := B0_2.c 8 (of_decide_eq_true rfl)
      go_wp2_with fail
      refine (qbyX_any b r2.2 m _ f2).mono ?_
      rintro e w3 ⟨rfl, f3, k3⟩
      generalize e3 : qbyXS r2.2 m = r3 at f3 ⊢
      have E3 : Hid _ := e3
      clear e3
      have K3 : Kept b w w3 := Kept.trans K2 k3
      have B0_3 : Arr w.heap.size [.int .i64 m.1, .int .i64 m.2.1, .int .i64 m.2.2.1, .int .i64 m.2.2.2.1, .int .i64 m.2.2.2.2.1, .int .i64 m.2.2.2.2.2.1, .int .i64 m.2.2.2.2.2.2.1, .int .i64 m.2.2.2.2.2.2.2.1, .int .i64 m.2.2.2.2.2.2.2.2] w3 := B0_2.kept k3 (by omega)
      have B1_3 : Arr (w.heap.size + 1) [.int .i64 0, .int .i64 0, .int .i64 0, .int .i64 0] w3 := B1_2.kept k3 (by omega)
      have z3 := B1_3.lies
      clear c2_B0_0 c2_B0_1 c2_B0_2 c2_B0_3 c2_B0_4 c2_B0_5 c2_B0_6 c2_B0_7 c2_B0_8 K2 f2 B0_2 B1_2 k3
      go_wp2_with fail
      refine (qUnit_any b r3.2 r3.1 _ f3).mono ?_
      rintro e w4 ⟨rfl, f4, k4⟩
      generalize e4 : qUnitS r3.2 r3.1 = r4 at f4 ⊢
      have E4 : Hid _ := e4
      clear e4
      have K4 : Kept b w w4 := Kept.trans K3 k4
      have B0_4 : Arr w.heap.size [.int .i64 m.1, .int .i64 m.2.1, .int .i64 m.2.2.1, .int .i64 m.2.2.2.1, .int .i64 m.2.2.2.2.1, .int .i64 m.2.2.2.2.2.1, .int .i64 m.2.2.2.2.2.2.1, .int .i64 m.2.2.2.2.2.2.2.1, .int .i64 m.2.2.2.2.2.2.2.2] w4 := B0_3.kept k4 (by omega)
      have B1_4 : Arr (w.heap.size + 1) [.int .i64 0, .int .i64 0, .int .i64 0, .int .i64 0] w4 := B1_3.kept k4 (by omega)
      have z4 := B1_4.lies
      clear K3 f3 B0_3 B1_3 k4
      have c4_B1_0 : w4.cell? ⟨w.heap.size + 1, 0, none⟩ = some (.int .i64 0) := B1_4.c 0 (of_decide_eq_true rfl)
      have c4_B1_1 : w4.cell? ⟨w.heap.size + 1, 1, none⟩ = some (.int .i64 0) := B1_4.c 1 (of_decide_eq_true rfl)
      have c4_B1_2 : w4.cell? ⟨w.heap.size + 1, 2, none⟩ = some (.int .i64 0) := B1_4.c 2 (of_decide_eq_true rfl)
      have c4_B1_3 : w4.cell? ⟨w.heap.size + 1, 3, none⟩ = some (.int .i64 0) := B1_4.c 3 (of_decide_eq_true rfl)
      have g4_B1_0 := B1_4.f 0 (of_decide_eq_true rfl)
      have g4_B1_1 := B1_4.f 1 (of_decide_eq_true rfl)
      have g4_B1_2 := B1_4.f 2 (of_decide_eq_true rfl)
      have g4_B1_3 := B1_4.f 3 (of_decide_eq_true rfl)
      go_wp2
      clear c4_B1_0 c4_B1_1 c4_B1_2 c4_B1_3 g4_B1_0 g4_B1_1 g4_B1_2 g4_B1_3
      have d0 := Arr.c (B1_4.put 0 (of_decide_eq_true rfl) (.int .i64 r4.1.1) [.int .i64 r4.1.1, .int .i64 0, .int .i64 0, .int .i64 0] rfl) 0 (of_decide_eq_true rfl)
      have d1 := Arr.c ((B1_4.put 0 (of_decide_eq_true rfl) (.int .i64 r4.1.1) [.int .i64 r4.1.1, .int .i64 0, .int .i64 0, .int .i64 0] rfl).put 1 (of_decide_eq_true rfl) (.int .i64 r4.1.2.1) [.int .i64 r4.1.1, .int .i64 r4.1.2.1, .int .i64 0, .int .i64 0] rfl) 1 (of_decide_eq_true rfl)
      have d2 := Arr.c (((B1_4.put 0 (of_decide_eq_true rfl) (.int .i64 r4.1.1) [.int .i64 r4.1.1, .int .i64 0, .int .i64 0, .int .i64 0] rfl).put 1 (of_decide_eq_true rfl) (.int .i64 r4.1.2.1) [.int .i64 r4.1.1, .int .i64 r4.1.2.1, .int .i64 0, .int .i64 0] rfl).put 2 (of_decide_eq_true rfl) (.int .i64 r4.1.2.2.1) [.int .i64 r4.1.1, .int .i64 r4.1.2.1, .int .i64 r4.1.2.2.1, .int .i64 0] rfl) 2 (of_decide_eq_true rfl)
      have d3 := Arr.c ((((B1_4.put 0 (of_decide_eq_true rfl) (.int .i64 r4.1.1) [.int .i64 r4.1.1, .int .i64 0, .int .i64 0, .int .i64 0] rfl).put 1 (of_decide_eq_true rfl) (.int .i64 r4.1.2.1) [.int .i64 r4.1.1, .int .i64 r4.1.2.1, .int .i64 0, .int .i64 0] rfl).put 2 (of_decide_eq_true rfl) (.int .i64 r4.1.2.2.1) [.int .i64 r4.1.1, .int .i64 r4.1.2.1, .int .i64 r4.1.2.2.1, .int .i64 0] rfl).put 3 (of_decide_eq_true rfl) (.int .i64 r4.1.2.2.2) [.int .i64 r4.1.1, .int .i64 r4.1.2.1, .int .i64 r4.1.2.2.1, .int .i64 r4.1.2.2.2] rfl) 3 (of_decide_eq_true rfl)
      refine bodyPost_ret (v := .agg #[.int .i64 r4.1.1, .int .i64 r4.1.2.1, .int .i64 r4.1.2.2.1, .int .i64 r4.1.2.2.2]) (by simp [results, Try.results22, go_sem, d0, d1, d2, d3]) rfl ?_
      have hs : qFromMatrixS bad m = (r4.1, r4.2) := by unfold qFromMatrixS; simp only [E1.out, E2.out, E3.out, E4.out]; rw [if_neg (by have := Hhc1.out; omega)]; rw [if_pos (by have := Hhc2.out; omega)]
      rw [hs]
      exact ⟨rfl, ((((f4.new (w.heap.size + 1) 0 (by omega) (.int .i64 r4.1.1)).new (w.heap.size + 1) 1 (by omega) (.int .i64 r4.1.2.1)).new (w.heap.size + 1) 2 (by omega) (.int .i64 r4.1.2.2.1)).new (w.heap.size + 1) 3 (by omega) (.int .i64 r4.1.2.2.2)), ((((K4.new _ _ (by omega) _).new _ _ (by omega) _).new _ _ (by omega) _).new _ _ (by omega) _)⟩
    · have Hhc2 : Hid (¬ (max4 r2.1 m.1 m.2.2.2.2.1 m.2.2.2.2.2.2.2.2) = m.1) := hc2
      by_cases hc3 : (max4 r2.1 m.1 m.2.2.2.2.1 m.2.2.2.2.2.2.2.2) = m.2.2.2.2.1
      · have Hhc3 : Hid ((max4 r2.1 m.1 m.2.2.2.2.1 m.2.2.2.2.2.2.2.2) = m.2.2.2.2.1) := hc3
        have c2_B0_0 : w2.cell? ⟨w.heap.size, 0, none⟩ = some (.int .i64 m.1) := B0_2.c 0 (of_decide_eq_true rfl)
        have c2_B0_1 : w2.cell? ⟨w.heap.size, 1, none⟩ = some (.int .i64 m.2.1) := B0_2.c 1 (of_decide_eq_true rfl)
        have c2_B0_2 : w2.cell? ⟨w.heap.size, 2, none⟩ = some (.int .i64 m.2.2.1) := B0_2.c 2 (of_decide_eq_true rfl)
        have c2_B0_3 : w2.cell? ⟨w.heap.size, 3, none⟩ = some (.int .i64 m.2.2.2.1) := B0_2.c 3 (of_decide_eq_true rfl)
        have c2_B0_4 : w2.cell? ⟨w.heap.size, 4, none⟩ = some (.int .i64 m.2.2.2.2.1) := B0_2.c 4 (of_decide_eq_true rfl)
        have c2_B0_5 : w2.cell? ⟨w.heap.size, 5, none⟩ = some (.int .i64 m.2.2.2.2.2.1) := B0_2.c 5 (of_decide_eq_true rfl)
        have c2_B0_6 : w2.cell? ⟨w.heap.size, 6, none⟩ = some (.int .i64 m.2.2.2.2.2.2.1) := B0_2.c 6 (of_decide_eq_true rfl)
        have c2_B0_7 : w2.cell? ⟨w.heap.size, 7, none⟩ = some (.int .i64 m.2.2.2.2.2.2.2.1) := B0_2.c 7 (of_decide_eq_true rfl)
        have c2_B0_8 : w2.cell? ⟨w.heap.size, 8, none⟩ = some (.int .i64 m.2.2.2.2.2.2.2.2) := B0_2.c 8 (of_decide_eq_true rfl)
        go_wp2_with fail
        refine (qbyY_any b r2.2 m _ f2).mono ?_
        rintro e w3 ⟨rfl, f3, k3⟩
        generalize e3 : qbyYS r2.2 m = r3 at f3 ⊢
        have E3 : Hid _ := e3
        clear e3
        have K3 : Kept b w w3 := Kept.trans K2 k3
        have B0_3 : Arr w.heap.size [.int .i64 m.1, .int .i64 m.2.1, .int .i64 m.2.2.1, .int .i64 m.2.2.2.1, .int .i64 m.2.2.2.2.1, .int .i64 m.2.2.2.2.2.1, .int .i64 m.2.2.2.2.2.2.1, .int .i64 m.2.2.2.2.2.2.2.1, .int .i64 m.2.2.2.2.2.2.2.2] w3 := B0_2.kept k3 (by omega)
        have B1_3 : Arr (w.heap.size + 1) [.int .i64 0, .int .i64 0, .int .i64 0, .int .i64 0] w3 := B1_2.kept k3 (by omega)
        have z3 := B1_3.lies
        clear c2_B0_0 c2_B0_1 c2_B0_2 c2_B0_3 c2_B0_4 c2_B0_5 c2_B0_6 c2_B0_7 c2_B0_8 K2 f2 B0_2 B1_2 k3
        go_wp2_with fail
        refine (qUnit_any b r3.2 r3.1 _ f3).mono ?_
        rintro e w4 ⟨rfl, f4, k4⟩
        generalize e4 : qUnitS r3.2 r3.1 = r4 at f4 ⊢
        have E4 : Hid _ := e4
        clear e4
        have K4 : Kept b w w4 := Kept.trans K3 k4
        have B0_4 : Arr w.heap.size [.int .i64 m.1, .int .i64 m.2.1, .int .i64 m.2.2.1, .int .i64 m.2.2.2.1, .int .i64 m.2.2.2.2.1, .int .i64 m.2.2.2.2.2.1, .int .i64 m.2.2.2.2.2.2.1, .int .i64 m.2.2.2.2.2.2.2.1, .int .i64 m.2.2.2.2.2.2.2.2] w4 := B0_3.kept k4 (by omega)
        have B1_4 : Arr (w.heap.size + 1) [.int .i64 0, .int .i64 0, .int .i64 0, .int .i64 0] w4 := B1_3.kept k4 (by omega)
        have z4 := B1_4.lies
        clear K3 f3 B0_3 B1_3 k4
        have c4_B1_0 : w4.cell? ⟨w.heap.size + 1, 0, none⟩ = some (.int .i64 0) := B1_4.c 0 (of_decide_eq_true rfl)
        have c4_B1_1 : w4.cell? ⟨w.heap.size + 1, 1, none⟩ = some (.int .i64 0) := B1_4.c 1 (of_decide_eq_true rfl)
        have c4_B1_2 : w4.cell? ⟨w.heap.size + 1, 2, none⟩ = some (.int .i64 0) := B1_4.c 2 (of_decide_eq_true rfl)
        have c4_B1_3 : w4.cell? ⟨w.heap.size + 1, 3, none⟩ = some (.int .i64 0) := B1_4.c 3 (of_decide_eq_true rfl)
        have g4_B1_0 := B1_4.f 0 (of_decide_eq_true rfl)
        have g4_B1_1 := B1_4.f 1 (of_decide_eq_true rfl)
        have g4_B1_2 := B1_4.f 2 (of_decide_eq_true rfl)
        have g4_B1_3 := B1_4.f 3 (of_decide_eq_true rfl)
        go_wp2
        clear c4_B1_0 c4_B1_1 c4_B1_2 c4_B1_3 g4_B1_0 g4_B1_1 g4_B1_2 g4_B1_3
        have d0 := Arr.c (B1_4.put 0 (of_decide_eq_true rfl) (.int .i64 r4.1.1) [.int .i64 r4.1.1, .int .i64 0, .int .i64 0, .int .i64 0] rfl) 0 (of_decide_eq_true rfl)
        have d1 := Arr.c ((B1_4.put 0 (of_decide_eq_true rfl) (.int .i64 r4.1.1) [.int .i64 r4.1.1, .int .i64 0, .int .i64 0, .int .i64 0] rfl).put 1 (of_decide_eq_true rfl) (.int .i64 r4.1.2.1) [.int .i64 r4.1.1, .int .i64 r4.1.2.1, .int .i64 0, .int .i64 0] rfl) 1 (of_decide_eq_true rfl)
        have d2 := Arr.c (((B1_4.put 0 (of_decide_eq_true rfl) (.int .i64 r4.1.1) [.int .i64 r4.1.1, .int .i64 0, .int .i64 0, .int .i64 0] rfl).put 1 (of_decide_eq_true rfl) (.int .i64 r4.1.2.1) [.int .i64 r4.1.1, .int .i64 r4.1.2.1, .int .i64 0, .int .i64 0] rfl).put 2 (of_decide_eq_true rfl) (.int .i64 r4.1.2.2.1) [.int .i64 r4.1.1, .int .i64 r4.1.2.1, .int .i64 r4.1.2.2.1, .int .i64 0] rfl) 2 (of_decide_eq_true rfl)
        have d3 := Arr.c ((((B1_4.put 0 (of_decide_eq_true rfl) (.int .i64 r4.1.1) [.int .i64 r4.1.1, .int .i64 0, .int .i64 0, .int .i64 0] rfl).put 1 (of_decide_eq_true rfl) (.int .i64 r4.1.2.1) [.int .i64 r4.1.1, .int .i64 r4.1.2.1, .int .i64 0, .int .i64 0] rfl).put 2 (of_decide_eq_true rfl) (.int .i64 r4.1.2.2.1) [.int .i64 r4.1.1, .int .i64 r4.1.2.1, .int .i64 r4.1.2.2.1, .int .i64 0] rfl).put 3 (of_decide_eq_true rfl) (.int .i64 r4.1.2.2.2) [.int .i64 r4.1.1, .int .i64 r4.1.2.1, .int .i64 r4.1.2.2.1, .int .i64 r4.1.2.2.2] rfl) 3 (of_decide_eq_true rfl)
        refine bodyPost_ret (v := .agg #[.int .i64 r4.1.1, .int .i64 r4.1.2.1, .int .i64 r4.1.2.2.1, .int .i64 r4.1.2.2.2]) (by simp [results, Try.results22, go_sem, d0, d1, d2, d3]) rfl ?_
        have hs : qFromMatrixS bad m = (r4.1, r4.2) := by unfold qFromMatrixS; simp only [E1.out, E2.out, E3.out, E4.out]; rw [if_neg (by have := Hhc1.out; omega)]; rw [if_neg (by have := Hhc2.out; omega)]; rw [if_pos (by have := Hhc3.out; omega)]
        rw [hs]
        exact ⟨rfl, ((((f4.new (w.heap.size + 1) 0 (by omega) (.int .i64 r4.1.1)).new (w.heap.size + 1) 1 (by omega) (.int .i64 r4.1.2.1)).new (w.heap.size + 1) 2 (by omega) (.int .i64 r4.1.2.2.1)).new (w.heap.size + 1) 3 (by omega) (.int .i64 r4.1.2.2.2)), ((((K4.new _ _ (by omega) _).new _ _ (by omega) _).new _ _ (by omega) _).new _ _ (by omega) _)⟩
      · have Hhc3 : Hid (¬ (max4 r2.1 m.1 m.2.2.2.2.1 m.2.2.2.2.2.2.2.2) = m.2.2.2.2.1) := hc3
        have c2_B0_0 : w2.cell? ⟨w.heap.size, 0, none⟩ = some (.int .i64 m.1) := B0_2.c 0 (of_decide_eq_true rfl)
        have c2_B0_1 : w2.cell? ⟨w.heap.size, 1, none⟩ = some (.int .i64 m.2.1) := B0_2.c 1 (of_decide_eq_true rfl)
        have c2_B0_2 : w2.cell? ⟨w.heap.size, 2, none⟩ = some (.int .i64 m.2.2.1) := B0_2.c 2 (of_decide_eq_true rfl)
        have c2_B0_3 : w2.cell? ⟨w.heap.size, 3, none⟩ = some (.int .i64 m.2.2.2.1) := B0_2.c 3 (of_decide_eq_true rfl)
        have c2_B0_4 : w2.cell? ⟨w.heap.size, 4, none⟩ = some (.int .i64 m.2.2.2.2.1) := B0_2.c 4 (of_decide_eq_true rfl)
        have c2_B0_5 : w2.cell? ⟨w.heap.size, 5, none⟩ = some (.int .i64 m.2.2.2.2.2.1) := B0_2.c 5 (of_decide_eq_true rfl)
        have c2_B0_6 : w2.cell? ⟨w.heap.size, 6, none⟩ = some (.int .i64 m.2.2.2.2.2.2.1) := B0_2.c 6 (of_decide_eq_true rfl)
        have c2_B0_7 : w2.cell? ⟨w.heap.size, 7, none⟩ = some (.int .i64 m.2.2.2.2.2.2.2.1) := B0_2.c 7 (of_decide_eq_true rfl)
        have c2_B0_8 : w2.cell? ⟨w.heap.size, 8, none⟩ = some (.int .i64 m.2.2.2.2.2.2.2.2) := B0_2.c 8 (of_decide_eq_true rfl)
        go_wp2_with fail
        refine (qbyZ_any b r2.2 m _ f2).mono ?_
        rintro e w3 ⟨rfl, f3, k3⟩
        generalize e3 : qbyZS r2.2 m = r3 at f3 ⊢
        have E3 : Hid _ := e3
        clear e3
        have K3 : Kept b w w3 := Kept.trans K2 k3
        have B0_3 : Arr w.heap.size [.int .i64 m.1, .int .i64 m.2.1, .int .i64 m.2.2.1, .int .i64 m.2.2.2.1, .int .i64 m.2.2.2.2.1, .int .i64 m.2.2.2.2.2.1, .int .i64 m.2.2.2.2.2.2.1, .int .i64 m.2.2.2.2.2.2.2.1, .int .i64 m.2.2.2.2.2.2.2.2] w3 := B0_2.kept k3 (by omega)
        have B1_3 : Arr (w.heap.size + 1) [.int .i64 0, .int .i64 0, .int .i64 0, .int .i64 0] w3 := B1_2.kept k3 (by omega)
        have z3 := B1_3.lies
        clear c2_B0_0 c2_B0_1 c2_B0_2 c2_B0_3 c2_B0_4 c2_B0_5 c2_B0_6 c2_B0_7 c2_B0_8 K2 f2 B0_2 B1_2 k3
        go_wp2_with fail
        refine (qUnit_any b r3.2 r3.1 _ f3).mono ?_
        rintro e w4 ⟨rfl, f4, k4⟩
        generalize e4 : qUnitS r3.2 r3.1 = r4 at f4 ⊢
        have E4 : Hid _ := e4
        clear e4
        have K4 : Kept b w w4 := Kept.trans K3 k4
        have B0_4 : Arr w.heap.size [.int .i64 m.1, .int .i64 m.2.1, .int .i64 m.2.2.1, .int .i64 m.2.2.2.1, .int .i64 m.2.2.2.2.1, .int .i64 m.2.2.2.2.2.1, .int .i64 m.2.2.2.2.2.2.1, .int .i64 m.2.2.2.2.2.2.2.1, .int .i64 m.2.2.2.2.2.2.2.2] w4 := B0_3.kept k4 (by omega)
        have B1_4 : Arr (w.heap.size + 1) [.int .i64 0, .int .i64 0, .int .i64 0, .int .i64 0] w4 := B1_3.kept k4 (by omega)
        have z4 := B1_4.lies
        clear K3 f3 B0_3 B1_3 k4
        have c4_B1_0 : w4.cell? ⟨w.heap.size + 1, 0, none⟩ = some (.int .i64 0) := B1_4.c 0 (of_decide_eq_true rfl)
        have c4_B1_1 : w4.cell? ⟨w.heap.size + 1, 1, none⟩ = some (.int .i64 0) := B1_4.c 1 (of_decide_eq_true rfl)
        have c4_B1_2 : w4.cell? ⟨w.heap.size + 1, 2, none⟩ = some (.int .i64 0) := B1_4.c 2 (of_decide_eq_true rfl)
        have c4_B1_3 : w4.cell? ⟨w.heap.size + 1, 3, none⟩ = some (.int .i64 0) := B1_4.c 3 (of_decide_eq_true rfl)
        have g4_B1_0 := B1_4.f 0 (of_decide_eq_true rfl)
        have g4_B1_1 := B1_4.f 1 (of_decide_eq_true rfl)
        have g4_B1_2 := B1_4.f 2 (of_decide_eq_true rfl)
        have g4_B1_3 := B1_4.f 3 (of_decide_eq_true rfl)
        go_wp2
        clear c4_B1_0 c4_B1_1 c4_B1_2 c4_B1_3 g4_B1_0 g4_B1_1 g4_B1_2 g4_B1_3
        have d0 := Arr.c (B1_4.put 0 (of_decide_eq_true rfl) (.int .i64 r4.1.1) [.int .i64 r4.1.1, .int .i64 0, .int .i64 0, .int .i64 0] rfl) 0 (of_decide_eq_true rfl)
        have d1 := Arr.c ((B1_4.put 0 (of_decide_eq_true rfl) (.int .i64 r4.1.1) [.int .i64 r4.1.1, .int .i64 0, .int .i64 0, .int .i64 0] rfl).put 1 (of_decide_eq_true rfl) (.int .i64 r4.1.2.1) [.int .i64 r4.1.1, .int .i64 r4.1.2.1, .int .i64 0, .int .i64 0] rfl) 1 (of_decide_eq_true rfl)
        have d2 := Arr.c (((B1_4.put 0 (of_decide_eq_true rfl) (.int .i64 r4.1.1) [.int .i64 r4.1.1, .int .i64 0, .int .i64 0, .int .i64 0] rfl).put 1 (of_decide_eq_true rfl) (.int .i64 r4.1.2.1) [.int .i64 r4.1.1, .int .i64 r4.1.2.1, .int .i64 0, .int .i64 0] rfl).put 2 (of_decide_eq_true rfl) (.int .i64 r4.1.2.2.1) [.int .i64 r4.1.1, .int .i64 r4.1.2.1, .int .i64 r4.1.2.2.1, .int .i64 0] rfl) 2 (of_decide_eq_true rfl)
        have d3 := Arr.c ((((B1_4.put 0 (of_decide_eq_true rfl) (.int .i64 r4.1.1) [.int .i64 r4.1.1, .int .i64 0, .int .i64 0, .int .i64 0] rfl).put 1 (of_decide_eq_true rfl) (.int .i64 r4.1.2.1) [.int .i64 r4.1.1, .int .i64 r4.1.2.1, .int .i64 0, .int .i64 0] rfl).put 2 (of_decide_eq_true rfl) (.int .i64 r4.1.2.2.1) [.int .i64 r4.1.1, .int .i64 r4.1.2.1, .int .i64 r4.1.2.2.1, .int .i64 0] rfl).put 3 (of_decide_eq_true rfl) (.int .i64 r4.1.2.2.2) [.int .i64 r4.1.1, .int .i64 r4.1.2.1, .int .i64 r4.1.2.2.1, .int .i64 r4.1.2.2.2] rfl) 3 (of_decide_eq_true rfl)
        refine bodyPost_ret (v := .agg #[.int .i64 r4.1.1, .int .i64 r4.1.2.1, .int .i64 r4.1.2.2.1, .int .i64 r4.1.2.2.2]) (by simp [results, Try.results22, go_sem, d0, d1, d2, d3]) rfl ?_
        have hs : qFromMatrixS bad m = (r4.1, r4.2) := by unfold qFromMatrixS; simp only [E1.out, E2.out, E3.out, E4.out]; rw [if_neg (by have := Hhc1.out; omega)]; rw [if_neg (by have := Hhc2.out; omega)]; rw [if_neg (by have := Hhc3.out; omega)]
        rw [hs]
        exact ⟨rfl, ((((f4.new (w.heap.size + 1) 0 (by omega) (.int .i64 r4.1.1)).new (w.heap.size + 1) 1 (by omega) (.int .i64 r4.1.2.1)).new (w.heap.size + 1) 2 (by omega) (.int .i64 r4.1.2.2.1)).new (w.heap.size + 1) 3 (by omega) (.int .i64 r4.1.2.2.2)), ((((K4.new _ _ (by omega) _).new _ _ (by omega) _).new _ _ (by omega) _).new _ _ (by omega) _)⟩
end Go.Proofs.Ytkeijfbpkdelpaa
