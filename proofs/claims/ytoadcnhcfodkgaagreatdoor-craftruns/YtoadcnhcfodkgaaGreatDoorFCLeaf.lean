/-
  Walks of package filter, for the seat YtoadcnhcfodkgaaGreatDoor. (Made by mkfil14.py.)
-/
import Derived.Test.YtoadcnhcfodkgaaGreatDoorXAct
import Derived.Test.YtoadcnhcfodkgaaGreatDoorFCSpec
import Derived.Test.YtoadcnhcfodkgaaGreatDoorFCZero
import Derived.Test.YtoadcnhcfodkgaaGreatDoorMeth
import Derived.Test.YtoadcnhcfodkgaaGreatDoorVGuard
import Derived.Test.YtoadcnhcfodkgaaGreatDoorVFold
import Derived.Test.YtoadcnhcfodkgaaGreatDoorStop
import Derived.Handy
import Derived.Deep.RegionHeld3
namespace Go.Proofs.YtoadcnhcfodkgaaGreatDoor
open Go.RowKit

set_option maxRecDepth 100000 in
set_option maxHeartbeats 2000000 in
theorem heither_any (i : Nat) (p : Int) (q : Int) (w : World) :
    Calls Tryz.prog 237 #[.int .i64 (i : Int), .int .i64 p, .int .i64 q] w fun e w' => e = .returned (.int .i64 (heitherP i p q)) ∧ Below w.heap.size w w' := by
  go_enter Tryz.func237, Tryz.ntmps237
  by_cases hc1 : (i : Int) < 3
  · have Hhc1 : Hid ((i : Int) < 3) := hc1
    go_wp2
    go_ret
    have hs : heitherP i p q = p := by unfold heitherP; rw [if_pos (by have := Hhc1.out; omega)]
    rw [hs]
    exact ⟨rfl, (Below.refl w.heap.size w)⟩
  · have Hhc1 : Hid (¬ (i : Int) < 3) := hc1
    go_wp2
    go_ret
    have hs : heitherP i p q = q := by unfold heitherP; rw [if_neg (by have := Hhc1.out; omega)]
    rw [hs]
    exact ⟨rfl, (Below.refl w.heap.size w)⟩
set_option maxRecDepth 100000 in
set_option maxHeartbeats 2000000 in
theorem hparted_x (r : Nat → Int) (w : World) :
    Calls Tryz.prog 229 #[.agg #[.int .i64 (r 0), .int .i64 (r 1), .int .i64 (r 2), .int .i64 (r 3), .int .i64 (r 4), .int .i64 (r 5)]] w fun e w' => e = .returned (.tuple #[.agg #[.int .i64 (hpartedP r).1.1, .int .i64 (hpartedP r).1.2.1, .int .i64 (hpartedP r).1.2.2], .agg #[.int .i64 (hpartedP r).2.1, .int .i64 (hpartedP r).2.2.1, .int .i64 (hpartedP r).2.2.2]]) ∧ Below w.heap.size w w' := by
  go_enter Tryz.func229, Tryz.ntmps229
  have y2_B0 : w.heap.size < w.heap.size + 1 := (Nat.lt_succ_self _)
  have y3_B0 : w.heap.size < w.heap.size + 1 + 1 := (Nat.lt_succ_of_lt (Nat.lt_succ_self _))
  have y3_B1 : w.heap.size + 1 < w.heap.size + 1 + 1 := (Nat.lt_succ_self _)
  go_wp2_with fail
  refine wp_region_held_drew (S := fun w' => Arr w.heap.size [.int .i64 (r 0), .int .i64 (r 1), .int .i64 (r 2), .int .i64 (r 3), .int .i64 (r 4), .int .i64 (r 5)] w') (by kernel_rfl) (((Arr_at _ _ [.int .i64 (r 0), .int .i64 (r 1), .int .i64 (r 2), .int .i64 (r 3), .int .i64 (r 4), .int .i64 (r 5)] _ (by simp)).alloc _).alloc _).drew (fun hHeld => ?_)
  refine take_at (i := 0) (v := ?v1) rfl (by kernel_rfl) (by kernel_rfl) (by kernel_rfl) (fun _ _ _ h => h) (Or.inl ⟨by rfl, ?y1⟩) hHeld ?t1
  case y1 => (intro wx hSw; go_simp <;> with_reducible rfl)
  simp only [Act.put, List.setIfInBounds_toArray, List.set_cons_zero, List.set_cons_succ]
  refine take_at (i := 1) (v := ?v2) rfl (by kernel_rfl) (by kernel_rfl) (by kernel_rfl) (fun _ _ _ h => h) (Or.inl ⟨by rfl, ?y2⟩) hHeld ?t2
  case y2 => (intro wx hSw; have hc0 : wx.cell? ⟨w.heap.size, 0, none⟩ = some (.int .i64 (r 0)) := hSw.c 0 (of_decide_eq_true rfl); go_simp <;> with_reducible rfl)
  simp only [Act.put, List.setIfInBounds_toArray, List.set_cons_zero, List.set_cons_succ]
  refine take_at (i := 2) (v := ?v3) rfl (by kernel_rfl) (by kernel_rfl) (by kernel_rfl) (fun _ _ _ h => h) (Or.inl ⟨by rfl, ?y3⟩) hHeld ?t3
  case y3 => (intro wx hSw; go_simp <;> with_reducible rfl)
  simp only [Act.put, List.setIfInBounds_toArray, List.set_cons_zero, List.set_cons_succ]
  refine take_at (i := 3) (v := ?v4) rfl (by kernel_rfl) (by kernel_rfl) (by kernel_rfl) (fun _ _ _ h => h) (Or.inl ⟨by rfl, ?y4⟩) hHeld ?t4
  case y4 => (intro wx hSw; have hc1 : wx.cell? ⟨w.heap.size, 1, none⟩ = some (.int .i64 (r 1)) := hSw.c 1 (of_decide_eq_true rfl); go_simp <;> with_reducible rfl)
  simp only [Act.put, List.setIfInBounds_toArray, List.set_cons_zero, List.set_cons_succ]
  refine take_at (i := 4) (v := ?v5) rfl (by kernel_rfl) (by kernel_rfl) (by kernel_rfl) (fun _ _ _ h => h) (Or.inl ⟨by rfl, ?y5⟩) hHeld ?t5
  case y5 => (intro wx hSw; go_simp <;> with_reducible rfl)
  simp only [Act.put, List.setIfInBounds_toArray, List.set_cons_zero, List.set_cons_succ]
  refine take_at (i := 5) (v := ?v6) rfl (by kernel_rfl) (by kernel_rfl) (by kernel_rfl) (fun _ _ _ h => h) (Or.inl ⟨by rfl, ?y6⟩) hHeld ?t6
  case y6 => (intro wx hSw; have hc2 : wx.cell? ⟨w.heap.size, 2, none⟩ = some (.int .i64 (r 2)) := hSw.c 2 (of_decide_eq_true rfl); go_simp <;> with_reducible rfl)
  simp only [Act.put, List.setIfInBounds_toArray, List.set_cons_zero, List.set_cons_succ]
  refine take_at (i := 6) (v := ?v7) rfl (by kernel_rfl) (by kernel_rfl) (by kernel_rfl) (fun _ _ _ h => h) (Or.inl ⟨by rfl, ?y7⟩) hHeld ?t7
  case y7 => (intro wx hSw; go_simp <;> with_reducible rfl)
  simp only [Act.put, List.setIfInBounds_toArray, List.set_cons_zero, List.set_cons_succ]
  refine take_at (i := 7) (v := ?v8) rfl (by kernel_rfl) (by kernel_rfl) (by kernel_rfl) (fun _ _ _ h => h) (Or.inl ⟨by rfl, ?y8⟩) hHeld ?t8
  case y8 => (intro wx hSw; go_simp <;> with_reducible rfl)
  simp only [Act.put, List.setIfInBounds_toArray, List.set_cons_zero, List.set_cons_succ]
  refine take_at (i := 8) (v := ?v9) rfl (by kernel_rfl) (by kernel_rfl) (by kernel_rfl) (fun _ _ _ h => h) (Or.inl ⟨by rfl, ?y9⟩) hHeld ?t9
  case y9 => (intro wx hSw; have hc3 : wx.cell? ⟨w.heap.size, 3, none⟩ = some (.int .i64 (r 3)) := hSw.c 3 (of_decide_eq_true rfl); go_simp <;> with_reducible rfl)
  simp only [Act.put, List.setIfInBounds_toArray, List.set_cons_zero, List.set_cons_succ]
  refine take_at (i := 9) (v := ?v10) rfl (by kernel_rfl) (by kernel_rfl) (by kernel_rfl) (fun _ _ _ h => h) (Or.inl ⟨by rfl, ?y10⟩) hHeld ?t10
  case y10 => (intro wx hSw; go_simp <;> with_reducible rfl)
  simp only [Act.put, List.setIfInBounds_toArray, List.set_cons_zero, List.set_cons_succ]
  refine take_at (i := 10) (v := ?v11) rfl (by kernel_rfl) (by kernel_rfl) (by kernel_rfl) (fun _ _ _ h => h) (Or.inl ⟨by rfl, ?y11⟩) hHeld ?t11
  case y11 => (intro wx hSw; have hc4 : wx.cell? ⟨w.heap.size, 4, none⟩ = some (.int .i64 (r 4)) := hSw.c 4 (of_decide_eq_true rfl); go_simp <;> with_reducible rfl)
  simp only [Act.put, List.setIfInBounds_toArray, List.set_cons_zero, List.set_cons_succ]
  refine take_at (i := 11) (v := ?v12) rfl (by kernel_rfl) (by kernel_rfl) (by kernel_rfl) (fun _ _ _ h => h) (Or.inl ⟨by rfl, ?y12⟩) hHeld ?t12
  case y12 => (intro wx hSw; go_simp <;> with_reducible rfl)
  simp only [Act.put, List.setIfInBounds_toArray, List.set_cons_zero, List.set_cons_succ]
  refine take_at (i := 12) (v := ?v13) rfl (by kernel_rfl) (by kernel_rfl) (by kernel_rfl) (fun _ _ _ h => h) (Or.inl ⟨by rfl, ?y13⟩) hHeld ?t13
  case y13 => (intro wx hSw; have hc5 : wx.cell? ⟨w.heap.size, 5, none⟩ = some (.int .i64 (r 5)) := hSw.c 5 (of_decide_eq_true rfl); go_simp <;> with_reducible rfl)
  simp only [Act.put, List.setIfInBounds_toArray, List.set_cons_zero, List.set_cons_succ]
  refine take_at (i := 13) (v := ?v14) rfl (by kernel_rfl) (by kernel_rfl) (by kernel_rfl) (fun _ _ _ h => h) (Or.inl ⟨by rfl, ?y14⟩) hHeld ?t14
  case y14 => (intro wx hSw; go_simp <;> with_reducible rfl)
  simp only [Act.put, List.setIfInBounds_toArray, List.set_cons_zero, List.set_cons_succ]
  refine call_at (i := 14) (by kernel_rfl) rfl (fun K hK => ?_)
  go_simp
  clear hHeld
  refine hK.out _ _ (((Arr_at _ _ [.int .i64 (r 0), .int .i64 (r 1), .int .i64 (r 2), .int .i64 (r 3), .int .i64 (r 4), .int .i64 (r 5)] _ (by simp)).alloc _).alloc _).drew (fun hHeld => ?_)
  clear hK K
  refine call_at (i := 15) (by kernel_rfl) rfl (fun K hK => ?_)
  go_simp
  clear hHeld
  refine hK.out _ _ (((Arr_at _ _ [.int .i64 (r 0), .int .i64 (r 1), .int .i64 (r 2), .int .i64 (r 3), .int .i64 (r 4), .int .i64 (r 5)] _ (by simp)).alloc _).alloc _).drew (fun hHeld => ?_)
  clear hK K
  refine wpAnyH_done (by kernel_rfl) ?_ _
  clear hHeld
  go_wp2_with (with_reducible refine post_stop ?_)
  refine Stop.mk ?_
  refine bodyPost_ret (v := .tuple #[.agg #[.int .i64 (r 0), .int .i64 (r 1), .int .i64 (r 2)], .agg #[.int .i64 (r 3), .int .i64 (r 4), .int .i64 (r 5)]]) (by simp [results, Tryz.results229, go_sem]) rfl ?_
  have hs : hpartedP r = (((r 0), (r 1), (r 2)), ((r 3), (r 4), (r 5))) := rfl
  rw [hs]
  exact ⟨rfl, (Below.drew (bel_al (bel_al (bel_al (Below.refl w.heap.size w) _) _) _))⟩
theorem hparted_any (r : Nat → Int) (w : World) :
    Calls Tryz.prog 229 #[.agg (row 6 r).toArray] w fun e w' => e = .returned (.tuple #[.agg #[.int .i64 ((hpartedP r).1.1), .int .i64 ((hpartedP r).1.2.1), .int .i64 ((hpartedP r).1.2.2)], .agg #[.int .i64 ((hpartedP r).2.1), .int .i64 ((hpartedP r).2.2.1), .int .i64 ((hpartedP r).2.2.2)]]) ∧ Below w.heap.size w w' := hparted_x r w
set_option maxRecDepth 100000 in
set_option maxHeartbeats 2000000 in
theorem hjoined_any (p : V6) (w : World) :
    Calls Tryz.prog 155 #[.agg #[.int .i64 p.1, .int .i64 p.2.1, .int .i64 p.2.2.1, .int .i64 p.2.2.2.1, .int .i64 p.2.2.2.2.1, .int .i64 p.2.2.2.2.2]] w fun e w' => e = .returned (.agg #[.int .i64 (hjoinedP p).1, .int .i64 (hjoinedP p).2.1, .int .i64 (hjoinedP p).2.2.1, .int .i64 (hjoinedP p).2.2.2.1, .int .i64 (hjoinedP p).2.2.2.2.1, .int .i64 (hjoinedP p).2.2.2.2.2]) ∧ Below w.heap.size w w' := by
  go_enter Tryz.func155, Tryz.ntmps155
  have y2_B0 : w.heap.size < w.heap.size + 1 := (Nat.lt_succ_self _)
  go_wp2_with (with_reducible refine post_stop ?_)
  refine Stop.mk ?_
  refine bodyPost_ret (v := .agg #[.int .i64 p.1, .int .i64 p.2.1, .int .i64 p.2.2.1, .int .i64 p.2.2.2.1, .int .i64 p.2.2.2.2.1, .int .i64 p.2.2.2.2.2]) (results_arr Tryz.results155 (Arr_at _ _ [.int .i64 p.1, .int .i64 p.2.1, .int .i64 p.2.2.1, .int .i64 p.2.2.2.1, .int .i64 p.2.2.2.2.1, .int .i64 p.2.2.2.2.2] _ (by simp)) rfl (by kernel_rfl) (by kernel_rfl)) rfl ?_
  have hs : hjoinedP p = p := rfl
  rw [hs]
  exact ⟨rfl, (bel_al (bel_al (Below.refl w.heap.size w) _) _)⟩
set_option maxRecDepth 100000 in
set_option maxHeartbeats 20000000 in
theorem hSpread_any (b : Nat) (bad : Bool) (g : Nat → Int) (w : World) (hw : Fl b bad w) :
    Calls Tryz.prog 52 #[.pointer (some ⟨b, 0, none⟩), .agg (row 43 g).toArray] w fun e w' => e = .returned (.int .i64 ((hSpreadS bad g).1)) ∧ Fl b (hSpreadS bad g).2 w' ∧ Kept b w w' := by
  have hl := hw.lies
  go_enter Tryz.func52, Tryz.ntmps52
  have y1_BF : b < w.heap.size := hw.lies
  go_wp2_with fail
  refine wp_region_held_drew (S := fun w' => Arr w.heap.size (row 43 g) w') (by kernel_rfl) (Arr_at _ _ (row 43 g) _ (by simp)).drew (fun hHeld => ?_)
  refine take_at (i := 0) (v := ?v1) rfl (by kernel_rfl) (by kernel_rfl) (by kernel_rfl) (fun _ _ _ h => h) (Or.inl ⟨by rfl, ?y1⟩) hHeld ?t1
  case y1 => (intro wx hSw; go_simp <;> with_reducible rfl)
  simp only [Act.put, List.setIfInBounds_toArray, List.set_cons_zero, List.set_cons_succ]
  refine take_at (i := 1) (v := ?v2) rfl (by kernel_rfl) (by kernel_rfl) (by kernel_rfl) (fun _ _ _ h => h) (Or.inl ⟨by rfl, ?y2⟩) hHeld ?t2
  case y2 => (intro wx hSw; go_simp <;> with_reducible rfl)
  simp only [Act.put, List.setIfInBounds_toArray, List.set_cons_zero, List.set_cons_succ]
  refine take_at (i := 2) (v := ?v3) rfl (by kernel_rfl) (by kernel_rfl) (by kernel_rfl) (fun _ _ _ h => h) (Or.inl ⟨by rfl, ?y3⟩) hHeld ?t3
  case y3 => (intro wx hSw; go_simp <;> with_reducible rfl)
  simp only [Act.put, List.setIfInBounds_toArray, List.set_cons_zero, List.set_cons_succ]
  refine take_at (i := 3) (v := ?v4) rfl (by kernel_rfl) (by kernel_rfl) (by kernel_rfl) (fun _ _ _ h => h) (Or.inl ⟨by rfl, ?y4⟩) hHeld ?t4
  case y4 => (intro wx hSw; go_simp <;> with_reducible rfl)
  simp only [Act.put, List.setIfInBounds_toArray, List.set_cons_zero, List.set_cons_succ]
  refine take_at (i := 4) (v := ?v5) rfl (by kernel_rfl) (by kernel_rfl) (by kernel_rfl) (fun _ _ _ h => h) (Or.inl ⟨by rfl, ?y5⟩) hHeld ?t5
  case y5 => (intro wx hSw; go_simp <;> with_reducible rfl)
  simp only [Act.put, List.setIfInBounds_toArray, List.set_cons_zero, List.set_cons_succ]
  refine take_at (i := 5) (v := ?v6) rfl (by kernel_rfl) (by kernel_rfl) (by kernel_rfl) (fun _ _ _ h => h) (Or.inl ⟨by rfl, ?y6⟩) hHeld ?t6
  case y6 => (intro wx hSw; have hc0 : wx.cell? ⟨w.heap.size, 7, none⟩ = some (.int .i64 (g 7)) := row_c hSw 7 (by omega); go_simp <;> with_reducible rfl)
  simp only [Act.put, List.setIfInBounds_toArray, List.set_cons_zero, List.set_cons_succ]
  refine take_at (i := 6) (v := ?v7) rfl (by kernel_rfl) (by kernel_rfl) (by kernel_rfl) (fun _ _ _ h => h) (Or.inl ⟨by rfl, ?y7⟩) hHeld ?t7
  case y7 => (intro wx hSw; go_simp <;> with_reducible rfl)
  simp only [Act.put, List.setIfInBounds_toArray, List.set_cons_zero, List.set_cons_succ]
  refine take_at (i := 7) (v := ?v8) rfl (by kernel_rfl) (by kernel_rfl) (by kernel_rfl) (fun _ _ _ h => h) (Or.inl ⟨by rfl, ?y8⟩) hHeld ?t8
  case y8 => (intro wx hSw; go_simp <;> with_reducible rfl)
  simp only [Act.put, List.setIfInBounds_toArray, List.set_cons_zero, List.set_cons_succ]
  refine take_at (i := 8) (v := ?v9) rfl (by kernel_rfl) (by kernel_rfl) (by kernel_rfl) (fun _ _ _ h => h) (Or.inl ⟨by rfl, ?y9⟩) hHeld ?t9
  case y9 => (intro wx hSw; go_simp <;> with_reducible rfl)
  simp only [Act.put, List.setIfInBounds_toArray, List.set_cons_zero, List.set_cons_succ]
  refine take_at (i := 9) (v := ?v10) rfl (by kernel_rfl) (by kernel_rfl) (by kernel_rfl) (fun _ _ _ h => h) (Or.inl ⟨by rfl, ?y10⟩) hHeld ?t10
  case y10 => (intro wx hSw; have hc0 : wx.cell? ⟨w.heap.size, 14, none⟩ = some (.int .i64 (g 14)) := row_c hSw 14 (by omega); go_simp <;> with_reducible rfl)
  simp only [Act.put, List.setIfInBounds_toArray, List.set_cons_zero, List.set_cons_succ]
  refine take_at (i := 11) (v := ?v11) rfl (by kernel_rfl) (by kernel_rfl) (by kernel_rfl) (fun _ _ _ h => h) (Or.inl ⟨by rfl, ?y11⟩) hHeld ?t11
  case y11 => (intro wx hSw; go_simp <;> with_reducible rfl)
  simp only [Act.put, List.setIfInBounds_toArray, List.set_cons_zero, List.set_cons_succ]
  refine take_at (i := 12) (v := ?v12) rfl (by kernel_rfl) (by kernel_rfl) (by kernel_rfl) (fun _ _ _ h => h) (Or.inl ⟨by rfl, ?y12⟩) hHeld ?t12
  case y12 => (intro wx hSw; go_simp <;> with_reducible rfl)
  simp only [Act.put, List.setIfInBounds_toArray, List.set_cons_zero, List.set_cons_succ]
  refine take_at (i := 13) (v := ?v13) rfl (by kernel_rfl) (by kernel_rfl) (by kernel_rfl) (fun _ _ _ h => h) (Or.inl ⟨by rfl, ?y13⟩) hHeld ?t13
  case y13 => (intro wx hSw; go_simp <;> with_reducible rfl)
  simp only [Act.put, List.setIfInBounds_toArray, List.set_cons_zero, List.set_cons_succ]
  refine take_at (i := 14) (v := ?v14) rfl (by kernel_rfl) (by kernel_rfl) (by kernel_rfl) (fun _ _ _ h => h) (Or.inl ⟨by rfl, ?y14⟩) hHeld ?t14
  case y14 => (intro wx hSw; have hc0 : wx.cell? ⟨w.heap.size, 21, none⟩ = some (.int .i64 (g 21)) := row_c hSw 21 (by omega); go_simp <;> with_reducible rfl)
  simp only [Act.put, List.setIfInBounds_toArray, List.set_cons_zero, List.set_cons_succ]
  refine call_at (i := 10) (by kernel_rfl) rfl (fun K hK => ?_)
  go_simp
  refine (Add_any b bad (g 7) (g 14) _ (hw.alloc _).drew).mono ?_
  rintro e w1 ⟨rfl, f1, k1⟩
  generalize e1 : addS bad (g 7) (g 14) = r1 at f1 ⊢
  have E1 : Hid _ := e1
  clear e1
  have K1 : Kept b w w1 := Kept.trans ((Kept.refl b w).al _).drew k1
  have B0_1 : Arr w.heap.size (row 43 g) w1 := (Arr_at _ _ (row 43 g) _ (by simp)).drew.kept k1 (Nat.ne_of_gt y1_BF)
  have z1 := B0_1.lies
  clear hHeld
  refine hK.out _ _ B0_1 (fun hHeld => ?_)
  clear hK K k1
  refine call_at (i := 15) (by kernel_rfl) rfl (fun K hK => ?_)
  go_simp
  refine (Add_any b r1.2 r1.1 (g 21) _ f1).mono ?_
  rintro e w2 ⟨rfl, f2, k2⟩
  generalize e2 : addS r1.2 r1.1 (g 21) = r2 at f2 ⊢
  have E2 : Hid _ := e2
  clear e2
  have K2 : Kept b w w2 := Kept.trans K1 k2
  have B0_2 := B0_1.kept k2 (Nat.ne_of_gt y1_BF)
  have z2 := B0_2.lies
  clear hHeld
  refine hK.out _ _ B0_2 (fun hHeld => ?_)
  clear hK K K1 f1 B0_1 k2
  refine take_at (i := 16) (v := ?v15) rfl (by kernel_rfl) (by kernel_rfl) (by kernel_rfl) (fun _ _ _ h => h) (Or.inl ⟨by rfl, ?y15⟩) hHeld ?t15
  case y15 => (intro wx hSw; go_simp <;> with_reducible rfl)
  simp only [Act.put, List.setIfInBounds_toArray, List.set_cons_zero, List.set_cons_succ]
  refine wpAnyH_done (by kernel_rfl) ?_ _
  clear hHeld
  go_wp2
  go_ret
  have hs : hSpreadS bad g = (r2.1, r2.2) := by unfold hSpreadS; simp only [E1.out, E2.out]
  rw [hs]
  exact ⟨rfl, f2, K2⟩
set_option maxRecDepth 100000 in
set_option maxHeartbeats 20000000 in
theorem hsound_any (b : Nat) (bad : Bool) (g : Nat → Int) (w : World) (hw : Fl b bad w) :
    Calls Tryz.prog 147 #[.pointer (some ⟨b, 0, none⟩), .agg (row 43 g).toArray] w fun e w' => e = .returned (.agg (row 43 ((hsoundS bad g).1)).toArray) ∧ Fl b (hsoundS bad g).2 w' ∧ Kept b w w' := by
  have hl := hw.lies
  go_enter Tryz.func147, Tryz.ntmps147
  have y1_BF : b < w.heap.size := hw.lies
  have y2_BF : b < w.heap.size + 1 := (Nat.lt_succ_of_lt hw.lies)
  have y2_B0 : w.heap.size < w.heap.size + 1 := (Nat.lt_succ_self _)
  rcases Bool.eq_false_or_eq_true bad with hc1 | hc1
  · have Hhc1 : Hid (bad = true) := hc1
    have c1_BF := hw.cell
    have l1_BF := hw.lies
    go_wp2_with (refine store_stop rfl (by kernel_rfl) ?_)
    clear c1_BF l1_BF
    refine Stop.mk (store_row (l' := row 43 (fun _ => 0)) rfl rfl rfl rfl (Arr_at _ _ (row 43 (fun _ => 0)) _ (by simp)) (by simp only [row_len]) (by rw [row_len]; kernel_rfl) (row_one _ _) ?_)
    intro w1 B1_1 o1
    have K1 : Kept b w w1 := Kept.off (((Kept.refl b w).al _).al _) o1 (by omega)
    have BF_1 := ((hw.alloc _).alloc _).off o1 (Nat.ne_of_lt y2_BF)
    have z1_B1 := B1_1.lies
    have z1_BF := BF_1.lies
    clear o1
    go_wp2_with (with_reducible refine post_stop ?_)
    refine Stop.mk ?_
    refine bodyPost_ret (v := .agg (row 43 (fun _ => 0)).toArray) (results_arr Tryz.results147 B1_1 rfl (by kernel_rfl) (by rw [row_len]; kernel_rfl)) rfl ?_
    have hs : hsoundS bad g = ((fun _ => 0), bad) := by unfold hsoundS; rw [if_pos Hhc1.out]
    first | (rw [hs]; exact ⟨rfl, BF_1, K1⟩) | (have hfl := BF_1; rw [Hhc1.out] at hs hfl; rw [hs]; exact ⟨rfl, hfl, K1⟩)
  · have Hhc1 : Hid (bad = false) := hc1
    have c1_BF := hw.cell
    have l1_BF := hw.lies
    go_wp2_with (first | (refine row_load (ty := 40) rfl rfl rfl ((Arr_at _ _ (row 43 g) _ (by simp)).alloc _) (by kernel_rfl) (by rw [row_len]; kernel_rfl) ?_) | (refine store_stop rfl (by kernel_rfl) ?_))
    clear c1_BF l1_BF
    refine Stop.mk (store_row (l' := row 43 g) rfl rfl rfl rfl (Arr_at _ _ (row 43 (fun _ => 0)) _ (by simp)) (by simp only [row_len]) (by rw [row_len]; kernel_rfl) (row_one _ _) ?_)
    intro w1 B1_1 o1
    have K1 : Kept b w w1 := Kept.off (((Kept.refl b w).al _).al _) o1 (by omega)
    have BF_1 := ((hw.alloc _).alloc _).off o1 (Nat.ne_of_lt y2_BF)
    have B0_1 : Arr w.heap.size (row 43 g) w1 := ((Arr_at _ _ (row 43 g) _ (by simp)).alloc _).off o1 (Nat.ne_of_lt y2_B0)
    have z1_B1 := B1_1.lies
    have z1_BF := BF_1.lies
    have z1_B0 := B0_1.lies
    clear o1
    go_wp2_with (with_reducible refine post_stop ?_)
    refine Stop.mk ?_
    refine bodyPost_ret (v := .agg (row 43 g).toArray) (results_arr Tryz.results147 B1_1 rfl (by kernel_rfl) (by rw [row_len]; kernel_rfl)) rfl ?_
    have hs : hsoundS bad g = (g, bad) := by unfold hsoundS; rw [if_neg (by rw [Hhc1.out]; decide)]
    first | (rw [hs]; exact ⟨rfl, BF_1, K1⟩) | (have hfl := BF_1; rw [Hhc1.out] at hs hfl; rw [hs]; exact ⟨rfl, hfl, K1⟩)
end Go.Proofs.YtoadcnhcfodkgaaGreatDoor
