/-
  The laws' own helpers (alidadelaw04.near, unit), for the seat Yteooceapkkdcpab. (Made by mklaw04.py.)
-/
import Derived.Test.YteooceapkkdcpabQAwake
import Derived.Test.YteooceapkkdcpabQUnit
import Derived.Test.YteooceapkkdcpabQKeepM
import Derived.Test.YteooceapkkdcpabQNearW
import Derived.Handy
import Derived.Deep.RegionHeld3
namespace Go.Proofs.Yteooceapkkdcpab
open Go.RowKit

def lunitS (q : V4) : V4 × Bool := let r1 := qUnitS false q; (r1.1, !r1.2)
set_option maxRecDepth 100000 in
set_option maxHeartbeats 2000000 in
theorem lunit_any0 (q : V4) (w : World) :
    Calls Try.prog 6 #[.agg #[.int .i64 q.1, .int .i64 q.2.1, .int .i64 q.2.2.1, .int .i64 q.2.2.2]] w fun e w' => e = .returned (.tuple #[.agg #[.int .i64 (lunitS q).1.1, .int .i64 (lunitS q).1.2.1, .int .i64 (lunitS q).1.2.2.1, .int .i64 (lunitS q).1.2.2.2], .bool (lunitS q).2]) ∧ Below w.heap.size w w' := by
  go_enter Try.func6, Try.ntmps6
  go_wp2_with fail
  refine (qUnit_any (w.heap.size + 1 + 1) false q _ (Fl_at _ _ _ _ (by simp))).mono ?_
  rintro e w1 ⟨rfl, f1, k1⟩
  generalize e1 : qUnitS false q = r1 at f1 ⊢
  have E1 : Hid _ := e1
  clear e1
  have K1 : Below w.heap.size w w1 := k1.on (bel_al (bel_al (bel_al (Below.refl w.heap.size w) _) _) _) (by omega)
  have B0_1 : Arr w.heap.size [.int .i64 q.1, .int .i64 q.2.1, .int .i64 q.2.2.1, .int .i64 q.2.2.2] w1 := (((Arr_at _ _ [.int .i64 q.1, .int .i64 q.2.1, .int .i64 q.2.2.1, .int .i64 q.2.2.2] _ (by simp)).alloc _).alloc _).kept k1 (by omega)
  have B1_1 : Arr (w.heap.size + 1) [.int .i64 0, .int .i64 0, .int .i64 0, .int .i64 0] w1 := ((Arr_at _ _ [.int .i64 0, .int .i64 0, .int .i64 0, .int .i64 0] _ (by simp)).alloc _).kept k1 (by omega)
  have z1 := f1.lies
  clear k1
  go_wp2_with fail
  refine wp_region_held_drew (S := fun w' => Arr w1.heap.size [.int .i64 r1.1.1, .int .i64 r1.1.2.1, .int .i64 r1.1.2.2.1, .int .i64 r1.1.2.2.2] w' ∧ Fl (w.heap.size + 1 + 1) r1.2 w') (by kernel_rfl) ⟨(Arr_at _ _ [.int .i64 r1.1.1, .int .i64 r1.1.2.1, .int .i64 r1.1.2.2.1, .int .i64 r1.1.2.2.2] _ (by simp)).drew, (f1.alloc _).drew⟩ (fun hHeld => ?_)
  refine take_at (i := 0) (v := ?v144) rfl (by kernel_rfl) (by kernel_rfl) (by kernel_rfl) (fun _ _ _ h => h) (Or.inl ⟨by rfl, ?y144⟩) hHeld ?t144
  case y144 => (intro wx hSw; have hc0 : wx.cell? ⟨w1.heap.size, 0, none⟩ = some (.int .i64 r1.1.1) := hSw.1.c 0 (of_decide_eq_true rfl); have hc1 : wx.cell? ⟨w1.heap.size, 1, none⟩ = some (.int .i64 r1.1.2.1) := hSw.1.c 1 (of_decide_eq_true rfl); have hc2 : wx.cell? ⟨w1.heap.size, 2, none⟩ = some (.int .i64 r1.1.2.2.1) := hSw.1.c 2 (of_decide_eq_true rfl); have hc3 : wx.cell? ⟨w1.heap.size, 3, none⟩ = some (.int .i64 r1.1.2.2.2) := hSw.1.c 3 (of_decide_eq_true rfl); go_simp <;> with_reducible rfl)
  simp only [Act.put, List.setIfInBounds_toArray, List.set_cons_zero, List.set_cons_succ]
  refine take_at (i := 1) (v := ?v145) rfl (by kernel_rfl) (by kernel_rfl) (by kernel_rfl) (fun _ _ _ h => h) (Or.inl ⟨by rfl, ?y145⟩) hHeld ?t145
  case y145 => (intro wx hSw; go_simp <;> with_reducible rfl)
  simp only [Act.put, List.setIfInBounds_toArray, List.set_cons_zero, List.set_cons_succ]
  refine take_at (i := 2) (v := ?v146) rfl (by kernel_rfl) (by kernel_rfl) (by kernel_rfl) (fun _ _ _ h => h) (Or.inl ⟨by rfl, ?y146⟩) hHeld ?t146
  case y146 => (intro wx hSw; go_simp <;> with_reducible rfl)
  simp only [Act.put, List.setIfInBounds_toArray, List.set_cons_zero, List.set_cons_succ]
  refine take_at (i := 3) (v := ?v147) rfl (by kernel_rfl) (by kernel_rfl) (by kernel_rfl) (fun _ _ _ h => h) (Or.inl ⟨by rfl, ?y147⟩) hHeld ?t147
  case y147 => (intro wx hSw; go_simp <;> with_reducible rfl)
  simp only [Act.put, List.setIfInBounds_toArray, List.set_cons_zero, List.set_cons_succ]
  refine take_at (i := 4) (v := ?v148) rfl (by kernel_rfl) (by kernel_rfl) (by kernel_rfl) (fun _ _ _ h => h) (Or.inl ⟨by rfl, ?y148⟩) hHeld ?t148
  case y148 => (intro wx hSw; have hc0 : wx.cell? ⟨w.heap.size + 1 + 1, 0, none⟩ = some (.bool r1.2) := hSw.2.cell; go_simp <;> with_reducible rfl)
  simp only [Act.put, List.setIfInBounds_toArray, List.set_cons_zero, List.set_cons_succ]
  refine take_at (i := 5) (v := ?v149) rfl (by kernel_rfl) (by kernel_rfl) (by kernel_rfl) (fun _ _ _ h => h) (Or.inl ⟨by rfl, ?y149⟩) hHeld ?t149
  case y149 => (intro wx hSw; go_simp <;> with_reducible rfl)
  simp only [Act.put, List.setIfInBounds_toArray, List.set_cons_zero, List.set_cons_succ]
  refine call_at (i := 6) (by kernel_rfl) rfl (fun K hK => ?_)
  have c3_B1_0 : w1.cell? ⟨w.heap.size + 1, 0, none⟩ = some (.int .i64 0) := B1_1.c 0 (of_decide_eq_true rfl)
  have c3_B1_1 : w1.cell? ⟨w.heap.size + 1, 1, none⟩ = some (.int .i64 0) := B1_1.c 1 (of_decide_eq_true rfl)
  have c3_B1_2 : w1.cell? ⟨w.heap.size + 1, 2, none⟩ = some (.int .i64 0) := B1_1.c 2 (of_decide_eq_true rfl)
  have c3_B1_3 : w1.cell? ⟨w.heap.size + 1, 3, none⟩ = some (.int .i64 0) := B1_1.c 3 (of_decide_eq_true rfl)
  have g3_B1_0 := B1_1.f 0 (of_decide_eq_true rfl)
  have g3_B1_1 := B1_1.f 1 (of_decide_eq_true rfl)
  have g3_B1_2 := B1_1.f 2 (of_decide_eq_true rfl)
  have g3_B1_3 := B1_1.f 3 (of_decide_eq_true rfl)
  have l3_B1 := B1_1.lies
  go_simp
  clear hHeld
  refine hK.out _ _ ⟨(Arr_at _ _ [.int .i64 r1.1.1, .int .i64 r1.1.2.1, .int .i64 r1.1.2.2.1, .int .i64 r1.1.2.2.2] _ (by simp)).drew, (((((f1.new (w.heap.size + 1) 0 (by omega) (.int .i64 r1.1.1)).new (w.heap.size + 1) 1 (by omega) (.int .i64 r1.1.2.1)).new (w.heap.size + 1) 2 (by omega) (.int .i64 r1.1.2.2.1)).new (w.heap.size + 1) 3 (by omega) (.int .i64 r1.1.2.2.2)).alloc _).drew⟩ (fun hHeld => ?_)
  clear hK K c3_B1_0 c3_B1_1 c3_B1_2 c3_B1_3 g3_B1_0 g3_B1_1 g3_B1_2 g3_B1_3 l3_B1
  refine take_at (i := 7) (v := ?v150) rfl (by kernel_rfl) (by kernel_rfl) (by kernel_rfl) (fun _ _ _ h => h) (Or.inl ⟨by rfl, ?y150⟩) hHeld ?t150
  case y150 => (intro wx hSw; go_simp <;> with_reducible rfl)
  simp only [Act.put, List.setIfInBounds_toArray, List.set_cons_zero, List.set_cons_succ]
  refine wpAnyH_done (by kernel_rfl) ?_ _
  clear hHeld
  go_wp2
  have dB10 := fun ob0 => Arr.c (((((B1_1.put 0 (of_decide_eq_true rfl) (.int .i64 r1.1.1) [.int .i64 r1.1.1, .int .i64 0, .int .i64 0, .int .i64 0] rfl).put 1 (of_decide_eq_true rfl) (.int .i64 r1.1.2.1) [.int .i64 r1.1.1, .int .i64 r1.1.2.1, .int .i64 0, .int .i64 0] rfl).put 2 (of_decide_eq_true rfl) (.int .i64 r1.1.2.2.1) [.int .i64 r1.1.1, .int .i64 r1.1.2.1, .int .i64 r1.1.2.2.1, .int .i64 0] rfl).put 3 (of_decide_eq_true rfl) (.int .i64 r1.1.2.2.2) [.int .i64 r1.1.1, .int .i64 r1.1.2.1, .int .i64 r1.1.2.2.1, .int .i64 r1.1.2.2.2] rfl).alloc ob0).drew 0 (of_decide_eq_true rfl)
  have dB11 := fun ob0 => Arr.c (((((B1_1.put 0 (of_decide_eq_true rfl) (.int .i64 r1.1.1) [.int .i64 r1.1.1, .int .i64 0, .int .i64 0, .int .i64 0] rfl).put 1 (of_decide_eq_true rfl) (.int .i64 r1.1.2.1) [.int .i64 r1.1.1, .int .i64 r1.1.2.1, .int .i64 0, .int .i64 0] rfl).put 2 (of_decide_eq_true rfl) (.int .i64 r1.1.2.2.1) [.int .i64 r1.1.1, .int .i64 r1.1.2.1, .int .i64 r1.1.2.2.1, .int .i64 0] rfl).put 3 (of_decide_eq_true rfl) (.int .i64 r1.1.2.2.2) [.int .i64 r1.1.1, .int .i64 r1.1.2.1, .int .i64 r1.1.2.2.1, .int .i64 r1.1.2.2.2] rfl).alloc ob0).drew 1 (of_decide_eq_true rfl)
  have dB12 := fun ob0 => Arr.c (((((B1_1.put 0 (of_decide_eq_true rfl) (.int .i64 r1.1.1) [.int .i64 r1.1.1, .int .i64 0, .int .i64 0, .int .i64 0] rfl).put 1 (of_decide_eq_true rfl) (.int .i64 r1.1.2.1) [.int .i64 r1.1.1, .int .i64 r1.1.2.1, .int .i64 0, .int .i64 0] rfl).put 2 (of_decide_eq_true rfl) (.int .i64 r1.1.2.2.1) [.int .i64 r1.1.1, .int .i64 r1.1.2.1, .int .i64 r1.1.2.2.1, .int .i64 0] rfl).put 3 (of_decide_eq_true rfl) (.int .i64 r1.1.2.2.2) [.int .i64 r1.1.1, .int .i64 r1.1.2.1, .int .i64 r1.1.2.2.1, .int .i64 r1.1.2.2.2] rfl).alloc ob0).drew 2 (of_decide_eq_true rfl)
  have dB13 := fun ob0 => Arr.c (((((B1_1.put 0 (of_decide_eq_true rfl) (.int .i64 r1.1.1) [.int .i64 r1.1.1, .int .i64 0, .int .i64 0, .int .i64 0] rfl).put 1 (of_decide_eq_true rfl) (.int .i64 r1.1.2.1) [.int .i64 r1.1.1, .int .i64 r1.1.2.1, .int .i64 0, .int .i64 0] rfl).put 2 (of_decide_eq_true rfl) (.int .i64 r1.1.2.2.1) [.int .i64 r1.1.1, .int .i64 r1.1.2.1, .int .i64 r1.1.2.2.1, .int .i64 0] rfl).put 3 (of_decide_eq_true rfl) (.int .i64 r1.1.2.2.2) [.int .i64 r1.1.1, .int .i64 r1.1.2.1, .int .i64 r1.1.2.2.1, .int .i64 r1.1.2.2.2] rfl).alloc ob0).drew 3 (of_decide_eq_true rfl)
  refine bodyPost_ret (v := .tuple #[.agg #[.int .i64 r1.1.1, .int .i64 r1.1.2.1, .int .i64 r1.1.2.2.1, .int .i64 r1.1.2.2.2], .bool (!r1.2)]) (by simp [results, Try.results6, go_sem, dB10, dB11, dB12, dB13]) rfl ?_
  have hs : lunitS q = (r1.1, !r1.2) := by unfold lunitS; simp only [E1.out]
  rw [hs]
  exact ⟨rfl, (Below.drew (bel_al (bel_new (bel_new (bel_new (bel_new K1 _ _ (by omega) _) _ _ (by omega) _) _ _ (by omega) _) _ _ (by omega) _) _))⟩
theorem lunit_any (q : V4) (w : World) :
    Calls Try.prog 6 #[.agg #[.int .i64 q.1, .int .i64 q.2.1, .int .i64 q.2.2.1, .int .i64 q.2.2.2]] w fun e w' => e = .returned (.tuple #[.agg #[.int .i64 (qUnitS false q).1.1, .int .i64 (qUnitS false q).1.2.1, .int .i64 (qUnitS false q).1.2.2.1, .int .i64 (qUnitS false q).1.2.2.2], .bool (!(qUnitS false q).2)]) ∧ Below w.heap.size w w' := lunit_any0 q w
theorem near_yes {a b : V3} {k : Int} (h0 : Ab (a.1 - b.1) k) (h1 : Ab (a.2.1 - b.2.1) k) (h2 : Ab (a.2.2 - b.2.2) k) : nearS a b k = true := by
  unfold nearS
  have := h0.lo; have := h0.hi; have := h1.lo; have := h1.hi; have := h2.lo; have := h2.hi
  rw [if_neg (by omega), if_neg (by omega), if_neg (by omega), if_neg (by omega), if_neg (by omega), if_neg (by omega)]
theorem near_get {a b : V3} {k : Int} (h : nearS a b k = true) : Ab (a.1 - b.1) k ∧ Ab (a.2.1 - b.2.1) k ∧ Ab (a.2.2 - b.2.2) k := by
  unfold nearS at h
  split at h
  · cases h
  split at h
  · cases h
  split at h
  · cases h
  split at h
  · cases h
  split at h
  · cases h
  split at h
  · cases h
  exact ⟨⟨by omega, by omega⟩, ⟨by omega, by omega⟩, ⟨by omega, by omega⟩⟩
end Go.Proofs.Yteooceapkkdcpab
