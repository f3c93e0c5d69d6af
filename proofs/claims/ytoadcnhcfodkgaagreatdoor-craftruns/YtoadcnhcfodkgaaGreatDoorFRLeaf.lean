/-
  Walks of package alidaderef14, for the seat YtoadcnhcfodkgaaGreatDoor. (Made by mkref14.py.)
-/
import Derived.Test.YtoadcnhcfodkgaaGreatDoorFRSpec
import Derived.Test.YtoadcnhcfodkgaaGreatDoorFRZero
import Derived.Test.YtoadcnhcfodkgaaGreatDoorRMeth
import Derived.Test.YtoadcnhcfodkgaaGreatDoorRFail
import Derived.Test.YtoadcnhcfodkgaaGreatDoorVGuard
import Derived.Test.YtoadcnhcfodkgaaGreatDoorVFold
import Derived.Test.YtoadcnhcfodkgaaGreatDoorStop
import Derived.Handy
import Derived.Deep.RegionHeld3
namespace Go.Proofs.YtoadcnhcfodkgaaGreatDoor
open Go.RowKit

set_option maxRecDepth 100000 in
set_option maxHeartbeats 2000000 in
theorem ffirst_x (r : Nat → Int) (w : World) :
    Calls Tryz.prog 95 #[.agg #[.int .i64 (r 0), .int .i64 (r 1), .int .i64 (r 2), .int .i64 (r 3), .int .i64 (r 4), .int .i64 (r 5)]] w fun e w' => e = .returned (.agg #[.int .i64 (ffirstP r).1, .int .i64 (ffirstP r).2.1, .int .i64 (ffirstP r).2.2]) ∧ Below w.heap.size w w' := by
  go_enter Tryz.func95, Tryz.ntmps95
  have y2_B0 : w.heap.size < w.heap.size + 1 := (Nat.lt_succ_self _)
  go_wp2_with (with_reducible refine post_stop ?_)
  refine Stop.mk ?_
  refine bodyPost_ret (v := .agg #[.int .i64 (r 0), .int .i64 (r 1), .int .i64 (r 2)]) (results_arr Tryz.results95 (Arr_at _ _ [.int .i64 (r 0), .int .i64 (r 1), .int .i64 (r 2)] _ (by simp)) rfl (by kernel_rfl) (by kernel_rfl)) rfl ?_
  have hs : ffirstP r = ((r 0), (r 1), (r 2)) := rfl
  rw [hs]
  exact ⟨rfl, (bel_al (bel_al (Below.refl w.heap.size w) _) _)⟩
theorem ffirst_any (r : Nat → Int) (w : World) :
    Calls Tryz.prog 95 #[.agg (row 6 r).toArray] w fun e w' => e = .returned (.agg #[.int .i64 ((ffirstP r).1), .int .i64 ((ffirstP r).2.1), .int .i64 ((ffirstP r).2.2)]) ∧ Below w.heap.size w w' := ffirst_x r w
set_option maxRecDepth 100000 in
set_option maxHeartbeats 2000000 in
theorem flast_x (r : Nat → Int) (w : World) :
    Calls Tryz.prog 85 #[.agg #[.int .i64 (r 0), .int .i64 (r 1), .int .i64 (r 2), .int .i64 (r 3), .int .i64 (r 4), .int .i64 (r 5)]] w fun e w' => e = .returned (.agg #[.int .i64 (flastP r).1, .int .i64 (flastP r).2.1, .int .i64 (flastP r).2.2]) ∧ Below w.heap.size w w' := by
  go_enter Tryz.func85, Tryz.ntmps85
  have y2_B0 : w.heap.size < w.heap.size + 1 := (Nat.lt_succ_self _)
  go_wp2_with (with_reducible refine post_stop ?_)
  refine Stop.mk ?_
  refine bodyPost_ret (v := .agg #[.int .i64 (r 3), .int .i64 (r 4), .int .i64 (r 5)]) (results_arr Tryz.results85 (Arr_at _ _ [.int .i64 (r 3), .int .i64 (r 4), .int .i64 (r 5)] _ (by simp)) rfl (by kernel_rfl) (by kernel_rfl)) rfl ?_
  have hs : flastP r = ((r 3), (r 4), (r 5)) := rfl
  rw [hs]
  exact ⟨rfl, (bel_al (bel_al (Below.refl w.heap.size w) _) _)⟩
theorem flast_any (r : Nat → Int) (w : World) :
    Calls Tryz.prog 85 #[.agg (row 6 r).toArray] w fun e w' => e = .returned (.agg #[.int .i64 ((flastP r).1), .int .i64 ((flastP r).2.1), .int .i64 ((flastP r).2.2)]) ∧ Below w.heap.size w w' := flast_x r w
set_option maxRecDepth 100000 in
set_option maxHeartbeats 2000000 in
theorem fpair_any (p : V3) (q : V3) (w : World) :
    Calls Tryz.prog 98 #[.agg #[.int .i64 p.1, .int .i64 p.2.1, .int .i64 p.2.2], .agg #[.int .i64 q.1, .int .i64 q.2.1, .int .i64 q.2.2]] w fun e w' => e = .returned (.agg #[.int .i64 (fpairP p q).1, .int .i64 (fpairP p q).2.1, .int .i64 (fpairP p q).2.2.1, .int .i64 (fpairP p q).2.2.2.1, .int .i64 (fpairP p q).2.2.2.2.1, .int .i64 (fpairP p q).2.2.2.2.2]) ∧ Below w.heap.size w w' := by
  go_enter Tryz.func98, Tryz.ntmps98
  have y2_B0 : w.heap.size < w.heap.size + 1 := (Nat.lt_succ_self _)
  have y3_B0 : w.heap.size < w.heap.size + 1 + 1 := (Nat.lt_succ_of_lt (Nat.lt_succ_self _))
  have y3_B1 : w.heap.size + 1 < w.heap.size + 1 + 1 := (Nat.lt_succ_self _)
  go_wp2_with (with_reducible refine post_stop ?_)
  refine Stop.mk ?_
  refine bodyPost_ret (v := .agg #[.int .i64 p.1, .int .i64 p.2.1, .int .i64 p.2.2, .int .i64 q.1, .int .i64 q.2.1, .int .i64 q.2.2]) (results_arr Tryz.results98 (Arr_at _ _ [.int .i64 p.1, .int .i64 p.2.1, .int .i64 p.2.2, .int .i64 q.1, .int .i64 q.2.1, .int .i64 q.2.2] _ (by simp)) rfl (by kernel_rfl) (by kernel_rfl)) rfl ?_
  have hs : fpairP p q = (p.1, p.2.1, p.2.2, q.1, q.2.1, q.2.2) := rfl
  rw [hs]
  exact ⟨rfl, (bel_al (bel_al (bel_al (Below.refl w.heap.size w) _) _) _)⟩
set_option maxRecDepth 100000 in
set_option maxHeartbeats 20000000 in
theorem fSpread_any (b : Nat) (bad : Bool) (g : Nat → Int) (w : World) (hw : Fl b bad w) :
    Calls Tryz.prog 28 #[.pointer (some ⟨b, 0, none⟩), .agg (row 43 g).toArray] w fun e w' => e = .returned (.int .i64 ((fSpreadS bad g).1)) ∧ Fl b (fSpreadS bad g).2 w' ∧ Kept b w w' := by
  have hl := hw.lies
  go_enter Tryz.func28, Tryz.ntmps28
  have y1_BF : b < w.heap.size := hw.lies
  go_wp2_with fail
  refine wp_region_held_drew (S := fun w' => Arr w.heap.size (row 43 g) w') (by kernel_rfl) (Arr_at _ _ (row 43 g) _ (by simp)).drew (fun hHeld => ?_)
  refine take_at (i := 0) (v := ?v1) rfl (by kernel_rfl) (by kernel_rfl) (by kernel_rfl) (fun _ _ _ h => h) (Or.inl ⟨by rfl, ?y1⟩) hHeld ?t1
  case y1 => (intro wx hSw; go_simp <;> with_reducible rfl)
  simp only [Act.put, List.setIfInBounds_toArray, List.set_cons_zero, List.set_cons_succ]
  refine take_at (i := 1) (v := ?v2) rfl (by kernel_rfl) (by kernel_rfl) (by kernel_rfl) (fun _ _ _ h => h) (Or.inl ⟨by rfl, ?y2⟩) hHeld ?t2
  case y2 => (intro wx hSw; go_simp <;> with_reducible rfl)
  simp only [Act.put, List.setIfInBounds_toArray, List.set_cons_zero, List.set_cons_succ]
  refine take_at (i := 2) (v := ?v3) rfl (by kernel_rfl) (by kernel_rfl) (by kernel_rfl) (fun _ _ _ h => h) (Or.inl ⟨by rfl, ?y3⟩) hHeld ?t3
  case y3 => (intro wx hSw; go_simp <;> with_reducible rfl)
  simp only [Act.put, List.setIfInBounds_toArray, List.set_cons_zero, List.set_cons_succ]
  refine take_at (i := 3) (v := ?v4) rfl (by kernel_rfl) (by kernel_rfl) (by kernel_rfl) (fun _ _ _ h => h) (Or.inl ⟨by rfl, ?y4⟩) hHeld ?t4
  case y4 => (intro wx hSw; go_simp <;> with_reducible rfl)
  simp only [Act.put, List.setIfInBounds_toArray, List.set_cons_zero, List.set_cons_succ]
  refine take_at (i := 4) (v := ?v5) rfl (by kernel_rfl) (by kernel_rfl) (by kernel_rfl) (fun _ _ _ h => h) (Or.inl ⟨by rfl, ?y5⟩) hHeld ?t5
  case y5 => (intro wx hSw; go_simp <;> with_reducible rfl)
  simp only [Act.put, List.setIfInBounds_toArray, List.set_cons_zero, List.set_cons_succ]
  refine take_at (i := 5) (v := ?v6) rfl (by kernel_rfl) (by kernel_rfl) (by kernel_rfl) (fun _ _ _ h => h) (Or.inl ⟨by rfl, ?y6⟩) hHeld ?t6
  case y6 => (intro wx hSw; have hc0 : wx.cell? ⟨w.heap.size, 7, none⟩ = some (.int .i64 (g 7)) := row_c hSw 7 (by omega); go_simp <;> with_reducible rfl)
  simp only [Act.put, List.setIfInBounds_toArray, List.set_cons_zero, List.set_cons_succ]
  refine take_at (i := 6) (v := ?v7) rfl (by kernel_rfl) (by kernel_rfl) (by kernel_rfl) (fun _ _ _ h => h) (Or.inl ⟨by rfl, ?y7⟩) hHeld ?t7
  case y7 => (intro wx hSw; go_simp <;> with_reducible rfl)
  simp only [Act.put, List.setIfInBounds_toArray, List.set_cons_zero, List.set_cons_succ]
  refine take_at (i := 7) (v := ?v8) rfl (by kernel_rfl) (by kernel_rfl) (by kernel_rfl) (fun _ _ _ h => h) (Or.inl ⟨by rfl, ?y8⟩) hHeld ?t8
  case y8 => (intro wx hSw; go_simp <;> with_reducible rfl)
  simp only [Act.put, List.setIfInBounds_toArray, List.set_cons_zero, List.set_cons_succ]
  refine take_at (i := 8) (v := ?v9) rfl (by kernel_rfl) (by kernel_rfl) (by kernel_rfl) (fun _ _ _ h => h) (Or.inl ⟨by rfl, ?y9⟩) hHeld ?t9
  case y9 => (intro wx hSw; go_simp <;> with_reducible rfl)
  simp only [Act.put, List.setIfInBounds_toArray, List.set_cons_zero, List.set_cons_succ]
  refine take_at (i := 9) (v := ?v10) rfl (by kernel_rfl) (by kernel_rfl) (by kernel_rfl) (fun _ _ _ h => h) (Or.inl ⟨by rfl, ?y10⟩) hHeld ?t10
  case y10 => (intro wx hSw; have hc0 : wx.cell? ⟨w.heap.size, 14, none⟩ = some (.int .i64 (g 14)) := row_c hSw 14 (by omega); go_simp <;> with_reducible rfl)
  simp only [Act.put, List.setIfInBounds_toArray, List.set_cons_zero, List.set_cons_succ]
  refine take_at (i := 11) (v := ?v11) rfl (by kernel_rfl) (by kernel_rfl) (by kernel_rfl) (fun _ _ _ h => h) (Or.inl ⟨by rfl, ?y11⟩) hHeld ?t11
  case y11 => (intro wx hSw; go_simp <;> with_reducible rfl)
  simp only [Act.put, List.setIfInBounds_toArray, List.set_cons_zero, List.set_cons_succ]
  refine take_at (i := 12) (v := ?v12) rfl (by kernel_rfl) (by kernel_rfl) (by kernel_rfl) (fun _ _ _ h => h) (Or.inl ⟨by rfl, ?y12⟩) hHeld ?t12
  case y12 => (intro wx hSw; go_simp <;> with_reducible rfl)
  simp only [Act.put, List.setIfInBounds_toArray, List.set_cons_zero, List.set_cons_succ]
  refine take_at (i := 13) (v := ?v13) rfl (by kernel_rfl) (by kernel_rfl) (by kernel_rfl) (fun _ _ _ h => h) (Or.inl ⟨by rfl, ?y13⟩) hHeld ?t13
  case y13 => (intro wx hSw; go_simp <;> with_reducible rfl)
  simp only [Act.put, List.setIfInBounds_toArray, List.set_cons_zero, List.set_cons_succ]
  refine take_at (i := 14) (v := ?v14) rfl (by kernel_rfl) (by kernel_rfl) (by kernel_rfl) (fun _ _ _ h => h) (Or.inl ⟨by rfl, ?y14⟩) hHeld ?t14
  case y14 => (intro wx hSw; have hc0 : wx.cell? ⟨w.heap.size, 21, none⟩ = some (.int .i64 (g 21)) := row_c hSw 21 (by omega); go_simp <;> with_reducible rfl)
  simp only [Act.put, List.setIfInBounds_toArray, List.set_cons_zero, List.set_cons_succ]
  refine call_at (i := 10) (by kernel_rfl) rfl (fun K hK => ?_)
  go_simp
  refine (rAdd_any b bad (g 7) (g 14) _ (hw.alloc _).drew).mono ?_
  rintro e w1 ⟨rfl, f1, k1⟩
  generalize e1 : addS bad (g 7) (g 14) = r1 at f1 ⊢
  have E1 : Hid _ := e1
  clear e1
  have K1 : Kept b w w1 := Kept.trans ((Kept.refl b w).al _).drew k1
  have B0_1 : Arr w.heap.size (row 43 g) w1 := (Arr_at _ _ (row 43 g) _ (by simp)).drew.kept k1 (Nat.ne_of_gt y1_BF)
  have z1 := B0_1.lies
  clear hHeld
  refine hK.out _ _ B0_1 (fun hHeld => ?_)
  clear hK K k1
  refine call_at (i := 15) (by kernel_rfl) rfl (fun K hK => ?_)
  go_simp
  refine (rAdd_any b r1.2 r1.1 (g 21) _ f1).mono ?_
  rintro e w2 ⟨rfl, f2, k2⟩
  generalize e2 : addS r1.2 r1.1 (g 21) = r2 at f2 ⊢
  have E2 : Hid _ := e2
  clear e2
  have K2 : Kept b w w2 := Kept.trans K1 k2
  have B0_2 : Arr w.heap.size (row 43 g) w2 := B0_1.kept k2 (Nat.ne_of_gt y1_BF)
  have z2 := B0_2.lies
  clear hHeld
  refine hK.out _ _ B0_2 (fun hHeld => ?_)
  clear hK K K1 f1 B0_1 k2
  refine take_at (i := 16) (v := ?v15) rfl (by kernel_rfl) (by kernel_rfl) (by kernel_rfl) (fun _ _ _ h => h) (Or.inl ⟨by rfl, ?y15⟩) hHeld ?t15
  case y15 => (intro wx hSw; go_simp <;> with_reducible rfl)
  simp only [Act.put, List.setIfInBounds_toArray, List.set_cons_zero, List.set_cons_succ]
  refine wpAnyH_done (by kernel_rfl) ?_ _
  clear hHeld
  go_wp2
  go_ret
  have hs : fSpreadS bad g = (r2.1, r2.2) := by unfold fSpreadS; simp only [E1.out, E2.out]
  rw [hs]
  exact ⟨rfl, f2, K2⟩
end Go.Proofs.YtoadcnhcfodkgaaGreatDoor
