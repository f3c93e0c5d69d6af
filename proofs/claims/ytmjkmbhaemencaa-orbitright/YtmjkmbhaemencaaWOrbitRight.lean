/-
  The walk of the law OrbitRight, for the seat Ytmjkmbhaemencaa. (Made by mkorbit.py.)
-/
import Derived.Test.YtmjkmbhaemencaaOAwake
import Derived.Test.YtmjkmbhaemencaaORRight
import Derived.Handy
import Derived.Deep.RegionHeld3
namespace Go.Proofs.Ytmjkmbhaemencaa
open Go.RowKit

set_option maxRecDepth 100000 in
set_option maxHeartbeats 4000000 in
theorem OrbitRight_any (o : V7) (w : World) :
    Calls Try.prog 3 #[.agg #[.int .i64 o.1, .int .i64 o.2.1, .int .i64 o.2.2.1, .int .i64 o.2.2.2.1, .int .i64 o.2.2.2.2.1, .int .i64 o.2.2.2.2.2.1, .int .i64 o.2.2.2.2.2.2]] w fun e w' => e = .returned (.bool true) ∧ Below w.heap.size w w' := by
  go_enter Try.func3, Try.ntmps3
  have y1_low : w.heap.size ≤ w.heap.size := (Below.refl w.heap.size w).size
  go_wp2_with fail
  refine (awake_any  _).mono ?_
  rintro e w1 ⟨rfl, k1⟩
  have K1 : Below w.heap.size w w1 := bel_then (bel_al (Below.refl w.heap.size w) _) k1
  have B0_1 : Arr w.heap.size [.int .i64 o.1, .int .i64 o.2.1, .int .i64 o.2.2.1, .int .i64 o.2.2.2.1, .int .i64 o.2.2.2.2.1, .int .i64 o.2.2.2.2.2.1, .int .i64 o.2.2.2.2.2.2] w1 := (Arr_at _ _ [.int .i64 o.1, .int .i64 o.2.1, .int .i64 o.2.2.1, .int .i64 o.2.2.2.1, .int .i64 o.2.2.2.2.1, .int .i64 o.2.2.2.2.2.1, .int .i64 o.2.2.2.2.2.2] _ (by simp)).below k1
  have z1 := B0_1.lies
  clear k1
  go_wp2_with fail
  refine wp_region_held_drew (S := fun w' => Arr w.heap.size [.int .i64 o.1, .int .i64 o.2.1, .int .i64 o.2.2.1, .int .i64 o.2.2.2.1, .int .i64 o.2.2.2.2.1, .int .i64 o.2.2.2.2.2.1, .int .i64 o.2.2.2.2.2.2] w') (by kernel_rfl) B0_1.drew (fun hHeld => ?_)
  refine take_at (i := 0) (v := ?v1) rfl (by kernel_rfl) (by kernel_rfl) (by kernel_rfl) (fun _ _ _ h => h) (Or.inl ⟨by rfl, ?y1⟩) hHeld ?t1
  case y1 => (intro wx hSw; have hc0 : wx.cell? ⟨w.heap.size, 0, none⟩ = some (.int .i64 o.1) := hSw.c 0 (of_decide_eq_true rfl); have hc1 : wx.cell? ⟨w.heap.size, 1, none⟩ = some (.int .i64 o.2.1) := hSw.c 1 (of_decide_eq_true rfl); have hc2 : wx.cell? ⟨w.heap.size, 2, none⟩ = some (.int .i64 o.2.2.1) := hSw.c 2 (of_decide_eq_true rfl); have hc3 : wx.cell? ⟨w.heap.size, 3, none⟩ = some (.int .i64 o.2.2.2.1) := hSw.c 3 (of_decide_eq_true rfl); have hc4 : wx.cell? ⟨w.heap.size, 4, none⟩ = some (.int .i64 o.2.2.2.2.1) := hSw.c 4 (of_decide_eq_true rfl); have hc5 : wx.cell? ⟨w.heap.size, 5, none⟩ = some (.int .i64 o.2.2.2.2.2.1) := hSw.c 5 (of_decide_eq_true rfl); have hc6 : wx.cell? ⟨w.heap.size, 6, none⟩ = some (.int .i64 o.2.2.2.2.2.2) := hSw.c 6 (of_decide_eq_true rfl); go_simp <;> with_reducible rfl)
  simp only [Act.put, List.setIfInBounds_toArray, List.set_cons_zero, List.set_cons_succ]
  refine take_at (i := 2) (v := ?v2) rfl (by kernel_rfl) (by kernel_rfl) (by kernel_rfl) (fun _ _ _ h => h) (Or.inl ⟨by rfl, ?y2⟩) hHeld ?t2
  case y2 => (intro wx hSw; have hc0 : wx.cell? ⟨w.heap.size, 0, none⟩ = some (.int .i64 o.1) := hSw.c 0 (of_decide_eq_true rfl); have hc1 : wx.cell? ⟨w.heap.size, 1, none⟩ = some (.int .i64 o.2.1) := hSw.c 1 (of_decide_eq_true rfl); have hc2 : wx.cell? ⟨w.heap.size, 2, none⟩ = some (.int .i64 o.2.2.1) := hSw.c 2 (of_decide_eq_true rfl); have hc3 : wx.cell? ⟨w.heap.size, 3, none⟩ = some (.int .i64 o.2.2.2.1) := hSw.c 3 (of_decide_eq_true rfl); have hc4 : wx.cell? ⟨w.heap.size, 4, none⟩ = some (.int .i64 o.2.2.2.2.1) := hSw.c 4 (of_decide_eq_true rfl); have hc5 : wx.cell? ⟨w.heap.size, 5, none⟩ = some (.int .i64 o.2.2.2.2.2.1) := hSw.c 5 (of_decide_eq_true rfl); have hc6 : wx.cell? ⟨w.heap.size, 6, none⟩ = some (.int .i64 o.2.2.2.2.2.2) := hSw.c 6 (of_decide_eq_true rfl); go_simp <;> with_reducible rfl)
  simp only [Act.put, List.setIfInBounds_toArray, List.set_cons_zero, List.set_cons_succ]
  refine call_at (i := 1) (by kernel_rfl) rfl (fun K hK => ?_)
  go_simp
  refine (oRightC_any o _).mono ?_
  rintro e w2 ⟨rfl, k2⟩
  generalize e2 : oRightC o = r2
  have E2 : Hid _ := e2
  clear e2
  have K2 : Below w.heap.size w w2 := bel_then (Below.drew K1) k2
  have B0_2 : Arr w.heap.size [.int .i64 o.1, .int .i64 o.2.1, .int .i64 o.2.2.1, .int .i64 o.2.2.2.1, .int .i64 o.2.2.2.2.1, .int .i64 o.2.2.2.2.2.1, .int .i64 o.2.2.2.2.2.2] w2 := B0_1.drew.below k2
  have z2 := B0_2.lies
  clear hHeld
  refine hK.out _ _ B0_2 (fun hHeld => ?_)
  clear hK K K1 B0_1 k2
  refine call_at (i := 3) (by kernel_rfl) rfl (fun K hK => ?_)
  go_simp
  refine (pRight_any o _).mono ?_
  rintro e w3 ⟨rfl, k3⟩
  rw [E2.out]
  have K3 : Below w.heap.size w w3 := bel_then K2 k3
  have B0_3 : Arr w.heap.size [.int .i64 o.1, .int .i64 o.2.1, .int .i64 o.2.2.1, .int .i64 o.2.2.2.1, .int .i64 o.2.2.2.2.1, .int .i64 o.2.2.2.2.2.1, .int .i64 o.2.2.2.2.2.2] w3 := B0_2.below k3
  have z3 := B0_3.lies
  clear hHeld
  refine hK.out _ _ B0_3 (fun hHeld => ?_)
  clear hK K K2 B0_2 k3
  refine take_at (i := 4) (v := ?v3) rfl (by kernel_rfl) (by kernel_rfl) (by kernel_rfl) (fun _ _ _ h => h) (Or.inl ⟨by rfl, ?y3⟩) hHeld ?t3
  case y3 => (intro wx hSw; go_simp <;> with_reducible rfl)
  simp only [Act.put, List.setIfInBounds_toArray, List.set_cons_zero, List.set_cons_succ]
  refine take_at (i := 5) (v := ?v4) rfl (by kernel_rfl) (by kernel_rfl) (by kernel_rfl) (fun _ _ _ h => h) (Or.inl ⟨by rfl, ?y4⟩) hHeld ?t4
  case y4 => (intro wx hSw; go_simp <;> with_reducible rfl)
  simp only [Act.put, List.setIfInBounds_toArray, List.set_cons_zero, List.set_cons_succ]
  refine wpAnyH_done (by kernel_rfl) ?_ _
  clear hHeld
  go_wp2
  go_ret
  exact ⟨rfl, K3⟩
end Go.Proofs.Ytmjkmbhaemencaa
