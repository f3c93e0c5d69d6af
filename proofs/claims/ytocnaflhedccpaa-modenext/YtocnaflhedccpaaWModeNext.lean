/-
  ModeNext, walked, for the seat Ytocnaflhedccpaa. (Made by mkmode.py.)
-/
import Derived.Test.YtocnaflhedccpaaMdAwake
import Derived.Test.YtocnaflhedccpaaMdRef
namespace Go.Proofs.Ytocnaflhedccpaa
open Go.RowKit

set_option maxRecDepth 100000 in
set_option maxHeartbeats 4000000 in
theorem ModeNext_any (p : Pl) (s : Sn) (w : World) (hp : WfPl p) : Calls Try.prog 3 #[.agg #[.int .i64 p.mode, .int .i64 p.calm, .int .i64 p.good, .int .i64 p.miss, .int .i64 p.lost, .int .i64 p.faults], .agg #[.bool s.gap, .bool s.gyro, .bool s.slow, .bool s.pair, .bool s.lit, .bool s.bad, .bool s.pass, .int .i64 s.order]] w fun e w' => e = .returned (.bool true) ∧ Below w.heap.size w w' := by
  obtain ⟨m, c, g, i, l, f⟩ := p
  obtain ⟨gap, gyro, slow, pair, lit, bad, pass, o⟩ := s
  dsimp only
  obtain ⟨q, hq⟩ : ∃ q, q = nextS ⟨m, c, g, i, l, f⟩ ⟨gap, gyro, slow, pair, lit, bad, pass, o⟩ := ⟨_, rfl⟩
  have h1 := fun W => next_any m c g i l f gap gyro slow pair lit bad pass o W hp.c hp.g hp.i hp.l
  have h2 := fun W => rnext_any m c g i l f gap gyro slow pair lit bad pass o W hp.c hp.g hp.i hp.l
  rw [← hq] at h1 h2
  clear hq hp
  obtain ⟨m1, c1, g1, i1, l1, f1⟩ := q
  unfold plV at h1 h2
  go_enter Try.func3, Try.ntmps3
  go_wp2_with fail
  refine (awake_any _).mono ?_
  rintro e w1 ⟨rfl, b1⟩
  have A0_1 : Arr w.heap.size [.int .i64 m, .int .i64 c, .int .i64 g, .int .i64 i, .int .i64 l, .int .i64 f] w1 := ((Arr_at w _ [.int .i64 m, .int .i64 c, .int .i64 g, .int .i64 i, .int .i64 l, .int .i64 f] 23 rfl).alloc _).below b1
  have A1_1 : Arr (w.heap.size + 1) [.bool gap, .bool gyro, .bool slow, .bool pair, .bool lit, .bool bad, .bool pass, .int .i64 o] w1 := (Arr_at _ _ [.bool gap, .bool gyro, .bool slow, .bool pair, .bool lit, .bool bad, .bool pass, .int .i64 o] 25 (by simp)).below b1
  have K1 : Below w.heap.size w w1 := bel_then (bel_al (bel_al (Below.refl w.heap.size w) _) _) b1
  have z1 := A1_1.lies
  clear b1
  go_wp2_with fail
  refine wp_region_held_drew (S := fun w' => Arr w.heap.size [.int .i64 m, .int .i64 c, .int .i64 g, .int .i64 i, .int .i64 l, .int .i64 f] w' ∧ Arr (w.heap.size + 1) [.bool gap, .bool gyro, .bool slow, .bool pair, .bool lit, .bool bad, .bool pass, .int .i64 o] w') (by kernel_rfl) ⟨A0_1.drew, A1_1.drew⟩ (fun hHeld => ?_)
  refine take_at (i := 0) (v := ?v1) rfl (by kernel_rfl) (by kernel_rfl) (by kernel_rfl) (fun _ _ _ h => h) (Or.inl ⟨by rfl, ?y1⟩) hHeld ?t1
  case y1 => (intro wx hSw; have cp_0 : wx.cell? ⟨w.heap.size, 0, none⟩ = some (.int .i64 m) := hSw.1.c 0 (of_decide_eq_true rfl); have cp_1 : wx.cell? ⟨w.heap.size, 1, none⟩ = some (.int .i64 c) := hSw.1.c 1 (of_decide_eq_true rfl); have cp_2 : wx.cell? ⟨w.heap.size, 2, none⟩ = some (.int .i64 g) := hSw.1.c 2 (of_decide_eq_true rfl); have cp_3 : wx.cell? ⟨w.heap.size, 3, none⟩ = some (.int .i64 i) := hSw.1.c 3 (of_decide_eq_true rfl); have cp_4 : wx.cell? ⟨w.heap.size, 4, none⟩ = some (.int .i64 l) := hSw.1.c 4 (of_decide_eq_true rfl); have cp_5 : wx.cell? ⟨w.heap.size, 5, none⟩ = some (.int .i64 f) := hSw.1.c 5 (of_decide_eq_true rfl); go_simp <;> with_reducible rfl)
  simp only [Act.put, List.setIfInBounds_toArray, List.set_cons_zero, List.set_cons_succ]
  refine take_at (i := 1) (v := ?v2) rfl (by kernel_rfl) (by kernel_rfl) (by kernel_rfl) (fun _ _ _ h => h) (Or.inl ⟨by rfl, ?y2⟩) hHeld ?t2
  case y2 => (intro wx hSw; have cs_0 : wx.cell? ⟨(w.heap.size + 1), 0, none⟩ = some (.bool gap) := hSw.2.c 0 (of_decide_eq_true rfl); have cs_1 : wx.cell? ⟨(w.heap.size + 1), 1, none⟩ = some (.bool gyro) := hSw.2.c 1 (of_decide_eq_true rfl); have cs_2 : wx.cell? ⟨(w.heap.size + 1), 2, none⟩ = some (.bool slow) := hSw.2.c 2 (of_decide_eq_true rfl); have cs_3 : wx.cell? ⟨(w.heap.size + 1), 3, none⟩ = some (.bool pair) := hSw.2.c 3 (of_decide_eq_true rfl); have cs_4 : wx.cell? ⟨(w.heap.size + 1), 4, none⟩ = some (.bool lit) := hSw.2.c 4 (of_decide_eq_true rfl); have cs_5 : wx.cell? ⟨(w.heap.size + 1), 5, none⟩ = some (.bool bad) := hSw.2.c 5 (of_decide_eq_true rfl); have cs_6 : wx.cell? ⟨(w.heap.size + 1), 6, none⟩ = some (.bool pass) := hSw.2.c 6 (of_decide_eq_true rfl); have cs_7 : wx.cell? ⟨(w.heap.size + 1), 7, none⟩ = some (.int .i64 o) := hSw.2.c 7 (of_decide_eq_true rfl); go_simp <;> with_reducible rfl)
  simp only [Act.put, List.setIfInBounds_toArray, List.set_cons_zero, List.set_cons_succ]
  refine take_at (i := 3) (v := ?v3) rfl (by kernel_rfl) (by kernel_rfl) (by kernel_rfl) (fun _ _ _ h => h) (Or.inl ⟨by rfl, ?y3⟩) hHeld ?t3
  case y3 => (intro wx hSw; have cp_0 : wx.cell? ⟨w.heap.size, 0, none⟩ = some (.int .i64 m) := hSw.1.c 0 (of_decide_eq_true rfl); have cp_1 : wx.cell? ⟨w.heap.size, 1, none⟩ = some (.int .i64 c) := hSw.1.c 1 (of_decide_eq_true rfl); have cp_2 : wx.cell? ⟨w.heap.size, 2, none⟩ = some (.int .i64 g) := hSw.1.c 2 (of_decide_eq_true rfl); have cp_3 : wx.cell? ⟨w.heap.size, 3, none⟩ = some (.int .i64 i) := hSw.1.c 3 (of_decide_eq_true rfl); have cp_4 : wx.cell? ⟨w.heap.size, 4, none⟩ = some (.int .i64 l) := hSw.1.c 4 (of_decide_eq_true rfl); have cp_5 : wx.cell? ⟨w.heap.size, 5, none⟩ = some (.int .i64 f) := hSw.1.c 5 (of_decide_eq_true rfl); go_simp <;> with_reducible rfl)
  simp only [Act.put, List.setIfInBounds_toArray, List.set_cons_zero, List.set_cons_succ]
  refine take_at (i := 4) (v := ?v4) rfl (by kernel_rfl) (by kernel_rfl) (by kernel_rfl) (fun _ _ _ h => h) (Or.inl ⟨by rfl, ?y4⟩) hHeld ?t4
  case y4 => (intro wx hSw; have cs_0 : wx.cell? ⟨(w.heap.size + 1), 0, none⟩ = some (.bool gap) := hSw.2.c 0 (of_decide_eq_true rfl); have cs_1 : wx.cell? ⟨(w.heap.size + 1), 1, none⟩ = some (.bool gyro) := hSw.2.c 1 (of_decide_eq_true rfl); have cs_2 : wx.cell? ⟨(w.heap.size + 1), 2, none⟩ = some (.bool slow) := hSw.2.c 2 (of_decide_eq_true rfl); have cs_3 : wx.cell? ⟨(w.heap.size + 1), 3, none⟩ = some (.bool pair) := hSw.2.c 3 (of_decide_eq_true rfl); have cs_4 : wx.cell? ⟨(w.heap.size + 1), 4, none⟩ = some (.bool lit) := hSw.2.c 4 (of_decide_eq_true rfl); have cs_5 : wx.cell? ⟨(w.heap.size + 1), 5, none⟩ = some (.bool bad) := hSw.2.c 5 (of_decide_eq_true rfl); have cs_6 : wx.cell? ⟨(w.heap.size + 1), 6, none⟩ = some (.bool pass) := hSw.2.c 6 (of_decide_eq_true rfl); have cs_7 : wx.cell? ⟨(w.heap.size + 1), 7, none⟩ = some (.int .i64 o) := hSw.2.c 7 (of_decide_eq_true rfl); go_simp <;> with_reducible rfl)
  simp only [Act.put, List.setIfInBounds_toArray, List.set_cons_zero, List.set_cons_succ]
  refine call_at (i := 2) (by kernel_rfl) rfl (fun K hK => ?_)
  go_simp
  refine (h1 _).mono ?_
  rintro e w2 ⟨rfl, b2⟩
  have A0_2 := A0_1.drew.below b2
  have A1_2 := A1_1.drew.below b2
  have K2 := bel_then (Below.drew K1) b2
  clear hHeld
  refine hK.out _ _ ⟨A0_2, A1_2⟩ (fun hHeld => ?_)
  clear hK K
  refine call_at (i := 5) (by kernel_rfl) rfl (fun K hK => ?_)
  go_simp
  refine (h2 _).mono ?_
  rintro e w3 ⟨rfl, b3⟩
  have A0_3 := A0_2.below b3
  have A1_3 := A1_2.below b3
  have K3 := bel_then K2 b3
  clear hHeld
  refine hK.out _ _ ⟨A0_3, A1_3⟩ (fun hHeld => ?_)
  clear hK K
  refine take_at (i := 6) (v := ?v5) rfl (by kernel_rfl) (by kernel_rfl) (by kernel_rfl) (fun _ _ _ h => h) (Or.inl ⟨by rfl, ?y5⟩) hHeld ?t5
  case y5 => (intro wx hSw; go_simp <;> with_reducible rfl)
  simp only [Act.put, List.setIfInBounds_toArray, List.set_cons_zero, List.set_cons_succ]
  refine take_at (i := 7) (v := ?v6) rfl (by kernel_rfl) (by kernel_rfl) (by kernel_rfl) (fun _ _ _ h => h) (Or.inl ⟨by rfl, ?y6⟩) hHeld ?t6
  case y6 => (intro wx hSw; go_simp <;> with_reducible rfl)
  simp only [Act.put, List.setIfInBounds_toArray, List.set_cons_zero, List.set_cons_succ]
  refine wpAnyH_done (by kernel_rfl) ?_ _
  clear hHeld
  go_wp2_with (with_reducible refine post_stop ?_)
  exact ⟨bodyPost_ret (v := .bool true) (by simp [results, Try.results3, go_sem]) rfl ⟨rfl, K3⟩⟩
end Go.Proofs.Ytocnaflhedccpaa
