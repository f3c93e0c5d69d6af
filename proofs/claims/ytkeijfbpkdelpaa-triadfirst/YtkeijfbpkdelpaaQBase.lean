/-
  Walks of package quat, for the seat Ytkeijfbpkdelpaa. (Made by mkquat.py.)
-/
import Derived.Test.YtkeijfbpkdelpaaQSpec
import Derived.Test.YtkeijfbpkdelpaaVMem
import Derived.Handy
import Derived.Deep.RegionHeld3
namespace Go.Proofs.Ytkeijfbpkdelpaa
open Go.RowKit

set_option maxHeartbeats 400000 in
theorem sound4_any (b : Nat) (bad : Bool) (v : V4) (w : World) (hw : Fl b bad w) :
    Calls Try.prog 42 #[.pointer (some ⟨b, 0, none⟩), .agg #[.int .i64 v.1, .int .i64 v.2.1, .int .i64 v.2.2.1, .int .i64 v.2.2.2]] w fun e w' => e = .returned (.agg #[.int .i64 (sound4S bad v).1.1, .int .i64 (sound4S bad v).1.2.1, .int .i64 (sound4S bad v).1.2.2.1, .int .i64 (sound4S bad v).1.2.2.2]) ∧ Fl b (sound4S bad v).2 w' ∧ Kept b w w' := by
  have hc := hw.cell
  have hl := hw.lies
  have HW : Hid _ := hw
  clear hw
  cases bad
  · go_enter Try.func42, Try.ntmps42
    go_wp2
    refine bodyPost_ret (v := .agg #[.int .i64 v.1, .int .i64 v.2.1, .int .i64 v.2.2.1, .int .i64 v.2.2.2]) (by simp [results, Try.results42, go_sem]) rfl ?_
    exact ⟨rfl, (HW.out.alloc _).alloc _, ((Kept.refl _ _).al _).al _⟩
  · go_enter Try.func42, Try.ntmps42
    go_wp2
    refine bodyPost_ret (v := .agg #[.int .i64 0, .int .i64 0, .int .i64 0, .int .i64 0]) (by simp [results, Try.results42, go_sem]) rfl ?_
    exact ⟨rfl, ((HW.out.alloc _).alloc _).alloc _, (((Kept.refl _ _).al _).al _).al _⟩

set_option maxHeartbeats 400000 in
theorem minus_any (a : Int) (w : World) :
    Calls Try.prog 44 #[.int .i64 a] w fun e w' => e = .returned (.int .i64 (minusS a)) ∧ Below w.heap.size w w' := by
  by_cases h1 : a < -4611686018427387904
  · have HS : Hid _ := minusS_lo h1
    go_enter Try.func44, Try.ntmps44
    go_wp2
    go_ret
    rw [HS.out]
    exact ⟨rfl, Below.refl _ _⟩
  · by_cases h2 : 4611686018427387904 < a
    · have HS : Hid _ := minusS_hi h2
      go_enter Try.func44, Try.ntmps44
      go_wp2
      go_ret
      rw [HS.out]
      exact ⟨rfl, Below.refl _ _⟩
    · have HS : Hid _ := minusS_in (by omega) (by omega : a ≤ 4611686018427387904)
      go_enter Try.func44, Try.ntmps44
      go_wp2
      go_ret
      rw [HS.out]
      exact ⟨rfl, Below.refl _ _⟩
set_option maxRecDepth 100000 in
set_option maxHeartbeats 2000000 in
theorem parted_any0 (q : V4) (w : World) :
    Calls Try.prog 31 #[.agg #[.int .i64 q.1, .int .i64 q.2.1, .int .i64 q.2.2.1, .int .i64 q.2.2.2]] w fun e w' => e = .returned (.tuple #[.agg #[.int .i64 (partedS q).1.1, .int .i64 (partedS q).1.2.1, .int .i64 (partedS q).1.2.2], .int .i64 (partedS q).2]) ∧ Below w.heap.size w w' := by
  go_enter Try.func31, Try.ntmps31
  go_wp2_with fail
  refine wp_region_held_drew (S := fun w' => Arr w.heap.size [.int .i64 q.1, .int .i64 q.2.1, .int .i64 q.2.2.1, .int .i64 q.2.2.2] w') (by kernel_rfl) ((Arr_at _ _ [.int .i64 q.1, .int .i64 q.2.1, .int .i64 q.2.2.1, .int .i64 q.2.2.2] _ (by simp)).alloc _).drew (fun hHeld => ?_)
  refine take_at (i := 0) (v := ?v1) rfl (by kernel_rfl) (by kernel_rfl) (by kernel_rfl) (fun _ _ _ h => h) (Or.inl ⟨by rfl, ?y1⟩) hHeld ?t1
  case y1 => (intro wx hSw; go_simp <;> with_reducible rfl)
  simp only [Act.put, List.setIfInBounds_toArray, List.set_cons_zero, List.set_cons_succ]
  refine take_at (i := 1) (v := ?v2) rfl (by kernel_rfl) (by kernel_rfl) (by kernel_rfl) (fun _ _ _ h => h) (Or.inl ⟨by rfl, ?y2⟩) hHeld ?t2
  case y2 => (intro wx hSw; have hc0 : wx.cell? ⟨w.heap.size, 0, none⟩ = some (.int .i64 q.1) := hSw.c 0 (of_decide_eq_true rfl); go_simp <;> with_reducible rfl)
  simp only [Act.put, List.setIfInBounds_toArray, List.set_cons_zero, List.set_cons_succ]
  refine take_at (i := 2) (v := ?v3) rfl (by kernel_rfl) (by kernel_rfl) (by kernel_rfl) (fun _ _ _ h => h) (Or.inl ⟨by rfl, ?y3⟩) hHeld ?t3
  case y3 => (intro wx hSw; go_simp <;> with_reducible rfl)
  simp only [Act.put, List.setIfInBounds_toArray, List.set_cons_zero, List.set_cons_succ]
  refine take_at (i := 3) (v := ?v4) rfl (by kernel_rfl) (by kernel_rfl) (by kernel_rfl) (fun _ _ _ h => h) (Or.inl ⟨by rfl, ?y4⟩) hHeld ?t4
  case y4 => (intro wx hSw; have hc1 : wx.cell? ⟨w.heap.size, 1, none⟩ = some (.int .i64 q.2.1) := hSw.c 1 (of_decide_eq_true rfl); go_simp <;> with_reducible rfl)
  simp only [Act.put, List.setIfInBounds_toArray, List.set_cons_zero, List.set_cons_succ]
  refine take_at (i := 4) (v := ?v5) rfl (by kernel_rfl) (by kernel_rfl) (by kernel_rfl) (fun _ _ _ h => h) (Or.inl ⟨by rfl, ?y5⟩) hHeld ?t5
  case y5 => (intro wx hSw; go_simp <;> with_reducible rfl)
  simp only [Act.put, List.setIfInBounds_toArray, List.set_cons_zero, List.set_cons_succ]
  refine take_at (i := 5) (v := ?v6) rfl (by kernel_rfl) (by kernel_rfl) (by kernel_rfl) (fun _ _ _ h => h) (Or.inl ⟨by rfl, ?y6⟩) hHeld ?t6
  case y6 => (intro wx hSw; have hc2 : wx.cell? ⟨w.heap.size, 2, none⟩ = some (.int .i64 q.2.2.1) := hSw.c 2 (of_decide_eq_true rfl); go_simp <;> with_reducible rfl)
  simp only [Act.put, List.setIfInBounds_toArray, List.set_cons_zero, List.set_cons_succ]
  refine take_at (i := 6) (v := ?v7) rfl (by kernel_rfl) (by kernel_rfl) (by kernel_rfl) (fun _ _ _ h => h) (Or.inl ⟨by rfl, ?y7⟩) hHeld ?t7
  case y7 => (intro wx hSw; go_simp <;> with_reducible rfl)
  simp only [Act.put, List.setIfInBounds_toArray, List.set_cons_zero, List.set_cons_succ]
  refine take_at (i := 7) (v := ?v8) rfl (by kernel_rfl) (by kernel_rfl) (by kernel_rfl) (fun _ _ _ h => h) (Or.inl ⟨by rfl, ?y8⟩) hHeld ?t8
  case y8 => (intro wx hSw; go_simp <;> with_reducible rfl)
  simp only [Act.put, List.setIfInBounds_toArray, List.set_cons_zero, List.set_cons_succ]
  refine take_at (i := 8) (v := ?v9) rfl (by kernel_rfl) (by kernel_rfl) (by kernel_rfl) (fun _ _ _ h => h) (Or.inl ⟨by rfl, ?y9⟩) hHeld ?t9
  case y9 => (intro wx hSw; have hc3 : wx.cell? ⟨w.heap.size, 3, none⟩ = some (.int .i64 q.2.2.2) := hSw.c 3 (of_decide_eq_true rfl); go_simp <;> with_reducible rfl)
  simp only [Act.put, List.setIfInBounds_toArray, List.set_cons_zero, List.set_cons_succ]
  refine call_at (i := 9) (by kernel_rfl) rfl (fun K hK => ?_)
  go_simp
  clear hHeld
  refine hK.out _ _ ((Arr_at _ _ [.int .i64 q.1, .int .i64 q.2.1, .int .i64 q.2.2.1, .int .i64 q.2.2.2] _ (by simp)).alloc _).drew (fun hHeld => ?_)
  clear hK K
  refine take_at (i := 10) (v := ?v10) rfl (by kernel_rfl) (by kernel_rfl) (by kernel_rfl) (fun _ _ _ h => h) (Or.inl ⟨by rfl, ?y10⟩) hHeld ?t10
  case y10 => (intro wx hSw; go_simp <;> with_reducible rfl)
  simp only [Act.put, List.setIfInBounds_toArray, List.set_cons_zero, List.set_cons_succ]
  refine wpAnyH_done (by kernel_rfl) ?_ _
  clear hHeld
  go_wp2
  refine bodyPost_ret (v := .tuple #[.agg #[.int .i64 q.1, .int .i64 q.2.1, .int .i64 q.2.2.1], .int .i64 q.2.2.2]) (by simp [results, Try.results31, go_sem]) rfl ?_
  have hs : partedS q = ((q.1, q.2.1, q.2.2.1), q.2.2.2) := rfl
  rw [hs]
  exact ⟨rfl, (Below.drew (bel_al (bel_al (Below.refl w.heap.size w) _) _))⟩
set_option maxRecDepth 100000 in
set_option maxHeartbeats 2000000 in
theorem joined_any0 (p : V3) (k : Int) (w : World) :
    Calls Try.prog 43 #[.agg #[.int .i64 p.1, .int .i64 p.2.1, .int .i64 p.2.2], .int .i64 k] w fun e w' => e = .returned (.agg #[.int .i64 (joinedS p k).1, .int .i64 (joinedS p k).2.1, .int .i64 (joinedS p k).2.2.1, .int .i64 (joinedS p k).2.2.2]) ∧ Below w.heap.size w w' := by
  go_enter Try.func43, Try.ntmps43
  go_wp2
  refine bodyPost_ret (v := .agg #[.int .i64 p.1, .int .i64 p.2.1, .int .i64 p.2.2, .int .i64 k]) (by simp [results, Try.results43, go_sem]) rfl ?_
  have hs : joinedS p k = (p.1, p.2.1, p.2.2, k) := rfl
  rw [hs]
  exact ⟨rfl, (bel_al (bel_al (Below.refl w.heap.size w) _) _)⟩
set_option maxRecDepth 100000 in
set_option maxHeartbeats 2000000 in
theorem upright_any (q : V4) (w : World) :
    Calls Try.prog 38 #[.agg #[.int .i64 q.1, .int .i64 q.2.1, .int .i64 q.2.2.1, .int .i64 q.2.2.2]] w fun e w' => e = .returned (.agg #[.int .i64 (uprightS q).1, .int .i64 (uprightS q).2.1, .int .i64 (uprightS q).2.2.1, .int .i64 (uprightS q).2.2.2]) ∧ Below w.heap.size w w' := by
  go_enter Try.func38, Try.ntmps38
  by_cases hc1 : q.2.2.2 ≥ 0
  · have Hhc1 : Hid (q.2.2.2 ≥ 0) := hc1
    go_wp2
    refine bodyPost_ret (v := .agg #[.int .i64 q.1, .int .i64 q.2.1, .int .i64 q.2.2.1, .int .i64 q.2.2.2]) (by simp [results, Try.results38, go_sem]) rfl ?_
    have hs : uprightS q = q := by unfold uprightS; rw [if_pos (by have := Hhc1.out; omega)]
    rw [hs]
    exact ⟨rfl, (bel_al (bel_al (Below.refl w.heap.size w) _) _)⟩
  · have Hhc1 : Hid (¬ q.2.2.2 ≥ 0) := hc1
    go_wp2_with fail
    refine wp_region_held_drew (S := fun w' => Arr w.heap.size [.int .i64 q.1, .int .i64 q.2.1, .int .i64 q.2.2.1, .int .i64 q.2.2.2] w') (by kernel_rfl) ((Arr_at _ _ [.int .i64 q.1, .int .i64 q.2.1, .int .i64 q.2.2.1, .int .i64 q.2.2.2] _ (by simp)).alloc _).drew (fun hHeld => ?_)
    refine take_at (i := 0) (v := ?v11) rfl (by kernel_rfl) (by kernel_rfl) (by kernel_rfl) (fun _ _ _ h => h) (Or.inl ⟨by rfl, ?y11⟩) hHeld ?t11
    case y11 => (intro wx hSw; go_simp <;> with_reducible rfl)
    simp only [Act.put, List.setIfInBounds_toArray, List.set_cons_zero, List.set_cons_succ]
    refine take_at (i := 1) (v := ?v12) rfl (by kernel_rfl) (by kernel_rfl) (by kernel_rfl) (fun _ _ _ h => h) (Or.inl ⟨by rfl, ?y12⟩) hHeld ?t12
    case y12 => (intro wx hSw; have hc0 : wx.cell? ⟨w.heap.size, 0, none⟩ = some (.int .i64 q.1) := hSw.c 0 (of_decide_eq_true rfl); go_simp <;> with_reducible rfl)
    simp only [Act.put, List.setIfInBounds_toArray, List.set_cons_zero, List.set_cons_succ]
    refine take_at (i := 3) (v := ?v13) rfl (by kernel_rfl) (by kernel_rfl) (by kernel_rfl) (fun _ _ _ h => h) (Or.inl ⟨by rfl, ?y13⟩) hHeld ?t13
    case y13 => (intro wx hSw; go_simp <;> with_reducible rfl)
    simp only [Act.put, List.setIfInBounds_toArray, List.set_cons_zero, List.set_cons_succ]
    refine take_at (i := 4) (v := ?v14) rfl (by kernel_rfl) (by kernel_rfl) (by kernel_rfl) (fun _ _ _ h => h) (Or.inl ⟨by rfl, ?y14⟩) hHeld ?t14
    case y14 => (intro wx hSw; have hc1 : wx.cell? ⟨w.heap.size, 1, none⟩ = some (.int .i64 q.2.1) := hSw.c 1 (of_decide_eq_true rfl); go_simp <;> with_reducible rfl)
    simp only [Act.put, List.setIfInBounds_toArray, List.set_cons_zero, List.set_cons_succ]
    refine take_at (i := 6) (v := ?v15) rfl (by kernel_rfl) (by kernel_rfl) (by kernel_rfl) (fun _ _ _ h => h) (Or.inl ⟨by rfl, ?y15⟩) hHeld ?t15
    case y15 => (intro wx hSw; go_simp <;> with_reducible rfl)
    simp only [Act.put, List.setIfInBounds_toArray, List.set_cons_zero, List.set_cons_succ]
    refine take_at (i := 7) (v := ?v16) rfl (by kernel_rfl) (by kernel_rfl) (by kernel_rfl) (fun _ _ _ h => h) (Or.inl ⟨by rfl, ?y16⟩) hHeld ?t16
    case y16 => (intro wx hSw; have hc2 : wx.cell? ⟨w.heap.size, 2, none⟩ = some (.int .i64 q.2.2.1) := hSw.c 2 (of_decide_eq_true rfl); go_simp <;> with_reducible rfl)
    simp only [Act.put, List.setIfInBounds_toArray, List.set_cons_zero, List.set_cons_succ]
    refine take_at (i := 9) (v := ?v17) rfl (by kernel_rfl) (by kernel_rfl) (by kernel_rfl) (fun _ _ _ h => h) (Or.inl ⟨by rfl, ?y17⟩) hHeld ?t17
    case y17 => (intro wx hSw; go_simp <;> with_reducible rfl)
    simp only [Act.put, List.setIfInBounds_toArray, List.set_cons_zero, List.set_cons_succ]
    refine take_at (i := 10) (v := ?v18) rfl (by kernel_rfl) (by kernel_rfl) (by kernel_rfl) (fun _ _ _ h => h) (Or.inl ⟨by rfl, ?y18⟩) hHeld ?t18
    case y18 => (intro wx hSw; have hc3 : wx.cell? ⟨w.heap.size, 3, none⟩ = some (.int .i64 q.2.2.2) := hSw.c 3 (of_decide_eq_true rfl); go_simp <;> with_reducible rfl)
    simp only [Act.put, List.setIfInBounds_toArray, List.set_cons_zero, List.set_cons_succ]
    refine call_at (i := 2) (by kernel_rfl) rfl (fun K hK => ?_)
    go_simp
    refine (minus_any q.1 _).mono ?_
    rintro e w1 ⟨rfl, k1⟩
    generalize e1 : minusS q.1 = r1
    have E1 : Hid _ := e1
    clear e1
    have K1 : Below w.heap.size w w1 := bel_then (Below.drew (bel_al (bel_al (Below.refl w.heap.size w) _) _)) k1
    have B0_1 : Arr w.heap.size [.int .i64 q.1, .int .i64 q.2.1, .int .i64 q.2.2.1, .int .i64 q.2.2.2] w1 := ((Arr_at _ _ [.int .i64 q.1, .int .i64 q.2.1, .int .i64 q.2.2.1, .int .i64 q.2.2.2] _ (by simp)).alloc _).drew.below k1
    have B1_1 : Arr (w.heap.size + 1) [.int .i64 0, .int .i64 0, .int .i64 0, .int .i64 0] w1 := (Arr_at _ _ [.int .i64 0, .int .i64 0, .int .i64 0, .int .i64 0] _ (by simp)).drew.below k1
    have z1 := B1_1.lies
    clear hHeld
    refine hK.out _ _ B0_1 (fun hHeld => ?_)
    clear hK K k1
    refine call_at (i := 5) (by kernel_rfl) rfl (fun K hK => ?_)
    go_simp
    refine (minus_any q.2.1 _).mono ?_
    rintro e w2 ⟨rfl, k2⟩
    generalize e2 : minusS q.2.1 = r2
    have E2 : Hid _ := e2
    clear e2
    have K2 : Below w.heap.size w w2 := bel_then K1 k2
    have B0_2 : Arr w.heap.size [.int .i64 q.1, .int .i64 q.2.1, .int .i64 q.2.2.1, .int .i64 q.2.2.2] w2 := B0_1.below k2
    have B1_2 : Arr (w.heap.size + 1) [.int .i64 0, .int .i64 0, .int .i64 0, .int .i64 0] w2 := B1_1.below k2
    have z2 := B1_2.lies
    clear hHeld
    refine hK.out _ _ B0_2 (fun hHeld => ?_)
    clear hK K K1 B0_1 B1_1 k2
    refine call_at (i := 8) (by kernel_rfl) rfl (fun K hK => ?_)
    go_simp
    refine (minus_any q.2.2.1 _).mono ?_
    rintro e w3 ⟨rfl, k3⟩
    generalize e3 : minusS q.2.2.1 = r3
    have E3 : Hid _ := e3
    clear e3
    have K3 : Below w.heap.size w w3 := bel_then K2 k3
    have B0_3 : Arr w.heap.size [.int .i64 q.1, .int .i64 q.2.1, .int .i64 q.2.2.1, .int .i64 q.2.2.2] w3 := B0_2.below k3
    have B1_3 : Arr (w.heap.size + 1) [.int .i64 0, .int .i64 0, .int .i64 0, .int .i64 0] w3 := B1_2.below k3
    have z3 := B1_3.lies
    clear hHeld
    refine hK.out _ _ B0_3 (fun hHeld => ?_)
    clear hK K K2 B0_2 B1_2 k3
    refine call_at (i := 11) (by kernel_rfl) rfl (fun K hK => ?_)
    go_simp
    refine (minus_any q.2.2.2 _).mono ?_
    rintro e w4 ⟨rfl, k4⟩
    generalize e4 : minusS q.2.2.2 = r4
    have E4 : Hid _ := e4
    clear e4
    have K4 : Below w.heap.size w w4 := bel_then K3 k4
    have B0_4 : Arr w.heap.size [.int .i64 q.1, .int .i64 q.2.1, .int .i64 q.2.2.1, .int .i64 q.2.2.2] w4 := B0_3.below k4
    have B1_4 : Arr (w.heap.size + 1) [.int .i64 0, .int .i64 0, .int .i64 0, .int .i64 0] w4 := B1_3.below k4
    have z4 := B1_4.lies
    clear hHeld
    refine hK.out _ _ B0_4 (fun hHeld => ?_)
    clear hK K K3 B0_3 B1_3 k4
    refine take_at (i := 12) (v := ?v19) rfl (by kernel_rfl) (by kernel_rfl) (by kernel_rfl) (fun _ _ _ h => h) (Or.inl ⟨by rfl, ?y19⟩) hHeld ?t19
    case y19 => (intro wx hSw; go_simp <;> with_reducible rfl)
    simp only [Act.put, List.setIfInBounds_toArray, List.set_cons_zero, List.set_cons_succ]
    refine call_at (i := 13) (by kernel_rfl) rfl (fun K hK => ?_)
    have c2_B1_0 : w4.cell? ⟨w.heap.size + 1, 0, none⟩ = some (.int .i64 0) := B1_4.c 0 (of_decide_eq_true rfl)
    have c2_B1_1 : w4.cell? ⟨w.heap.size + 1, 1, none⟩ = some (.int .i64 0) := B1_4.c 1 (of_decide_eq_true rfl)
    have c2_B1_2 : w4.cell? ⟨w.heap.size + 1, 2, none⟩ = some (.int .i64 0) := B1_4.c 2 (of_decide_eq_true rfl)
    have c2_B1_3 : w4.cell? ⟨w.heap.size + 1, 3, none⟩ = some (.int .i64 0) := B1_4.c 3 (of_decide_eq_true rfl)
    have g2_B1_0 := B1_4.f 0 (of_decide_eq_true rfl)
    have g2_B1_1 := B1_4.f 1 (of_decide_eq_true rfl)
    have g2_B1_2 := B1_4.f 2 (of_decide_eq_true rfl)
    have g2_B1_3 := B1_4.f 3 (of_decide_eq_true rfl)
    go_simp
    clear hHeld
    refine hK.out _ _ ((((B0_4.new _ _ (by omega) _).new _ _ (by omega) _).new _ _ (by omega) _).new _ _ (by omega) _) (fun hHeld => ?_)
    clear hK K c2_B1_0 c2_B1_1 c2_B1_2 c2_B1_3 g2_B1_0 g2_B1_1 g2_B1_2 g2_B1_3
    refine wpAnyH_done (by kernel_rfl) ?_ _
    clear hHeld
    go_wp2
    have d0 := Arr.c (B1_4.put 0 (of_decide_eq_true rfl) (.int .i64 r1) [.int .i64 r1, .int .i64 0, .int .i64 0, .int .i64 0] rfl) 0 (of_decide_eq_true rfl)
    have d1 := Arr.c ((B1_4.put 0 (of_decide_eq_true rfl) (.int .i64 r1) [.int .i64 r1, .int .i64 0, .int .i64 0, .int .i64 0] rfl).put 1 (of_decide_eq_true rfl) (.int .i64 r2) [.int .i64 r1, .int .i64 r2, .int .i64 0, .int .i64 0] rfl) 1 (of_decide_eq_true rfl)
    have d2 := Arr.c (((B1_4.put 0 (of_decide_eq_true rfl) (.int .i64 r1) [.int .i64 r1, .int .i64 0, .int .i64 0, .int .i64 0] rfl).put 1 (of_decide_eq_true rfl) (.int .i64 r2) [.int .i64 r1, .int .i64 r2, .int .i64 0, .int .i64 0] rfl).put 2 (of_decide_eq_true rfl) (.int .i64 r3) [.int .i64 r1, .int .i64 r2, .int .i64 r3, .int .i64 0] rfl) 2 (of_decide_eq_true rfl)
    have d3 := Arr.c ((((B1_4.put 0 (of_decide_eq_true rfl) (.int .i64 r1) [.int .i64 r1, .int .i64 0, .int .i64 0, .int .i64 0] rfl).put 1 (of_decide_eq_true rfl) (.int .i64 r2) [.int .i64 r1, .int .i64 r2, .int .i64 0, .int .i64 0] rfl).put 2 (of_decide_eq_true rfl) (.int .i64 r3) [.int .i64 r1, .int .i64 r2, .int .i64 r3, .int .i64 0] rfl).put 3 (of_decide_eq_true rfl) (.int .i64 r4) [.int .i64 r1, .int .i64 r2, .int .i64 r3, .int .i64 r4] rfl) 3 (of_decide_eq_true rfl)
    refine bodyPost_ret (v := .agg #[.int .i64 r1, .int .i64 r2, .int .i64 r3, .int .i64 r4]) (by simp [results, Try.results38, go_sem, d0, d1, d2, d3]) rfl ?_
    have hs : uprightS q = (r1, r2, r3, r4) := by unfold uprightS; simp only [E1.out, E2.out, E3.out, E4.out]; rw [if_neg (by have := Hhc1.out; omega)]
    rw [hs]
    exact ⟨rfl, (bel_new (bel_new (bel_new (bel_new K4 _ _ (by omega) _) _ _ (by omega) _) _ _ (by omega) _) _ _ (by omega) _)⟩
set_option maxRecDepth 100000 in
set_option maxHeartbeats 2000000 in
theorem qBack_any (q : V4) (w : World) :
    Calls Try.prog 19 #[.agg #[.int .i64 q.1, .int .i64 q.2.1, .int .i64 q.2.2.1, .int .i64 q.2.2.2]] w fun e w' => e = .returned (.agg #[.int .i64 (qBackS q).1, .int .i64 (qBackS q).2.1, .int .i64 (qBackS q).2.2.1, .int .i64 (qBackS q).2.2.2]) ∧ Below w.heap.size w w' := by
  go_enter Try.func19, Try.ntmps19
  go_wp2_with fail
  refine wp_region_held_drew (S := fun w' => Arr w.heap.size [.int .i64 q.1, .int .i64 q.2.1, .int .i64 q.2.2.1, .int .i64 q.2.2.2] w') (by kernel_rfl) ((Arr_at _ _ [.int .i64 q.1, .int .i64 q.2.1, .int .i64 q.2.2.1, .int .i64 q.2.2.2] _ (by simp)).alloc _).drew (fun hHeld => ?_)
  refine take_at (i := 0) (v := ?v20) rfl (by kernel_rfl) (by kernel_rfl) (by kernel_rfl) (fun _ _ _ h => h) (Or.inl ⟨by rfl, ?y20⟩) hHeld ?t20
  case y20 => (intro wx hSw; go_simp <;> with_reducible rfl)
  simp only [Act.put, List.setIfInBounds_toArray, List.set_cons_zero, List.set_cons_succ]
  refine take_at (i := 1) (v := ?v21) rfl (by kernel_rfl) (by kernel_rfl) (by kernel_rfl) (fun _ _ _ h => h) (Or.inl ⟨by rfl, ?y21⟩) hHeld ?t21
  case y21 => (intro wx hSw; have hc0 : wx.cell? ⟨w.heap.size, 0, none⟩ = some (.int .i64 q.1) := hSw.c 0 (of_decide_eq_true rfl); go_simp <;> with_reducible rfl)
  simp only [Act.put, List.setIfInBounds_toArray, List.set_cons_zero, List.set_cons_succ]
  refine take_at (i := 3) (v := ?v22) rfl (by kernel_rfl) (by kernel_rfl) (by kernel_rfl) (fun _ _ _ h => h) (Or.inl ⟨by rfl, ?y22⟩) hHeld ?t22
  case y22 => (intro wx hSw; go_simp <;> with_reducible rfl)
  simp only [Act.put, List.setIfInBounds_toArray, List.set_cons_zero, List.set_cons_succ]
  refine take_at (i := 4) (v := ?v23) rfl (by kernel_rfl) (by kernel_rfl) (by kernel_rfl) (fun _ _ _ h => h) (Or.inl ⟨by rfl, ?y23⟩) hHeld ?t23
  case y23 => (intro wx hSw; have hc1 : wx.cell? ⟨w.heap.size, 1, none⟩ = some (.int .i64 q.2.1) := hSw.c 1 (of_decide_eq_true rfl); go_simp <;> with_reducible rfl)
  simp only [Act.put, List.setIfInBounds_toArray, List.set_cons_zero, List.set_cons_succ]
  refine take_at (i := 6) (v := ?v24) rfl (by kernel_rfl) (by kernel_rfl) (by kernel_rfl) (fun _ _ _ h => h) (Or.inl ⟨by rfl, ?y24⟩) hHeld ?t24
  case y24 => (intro wx hSw; go_simp <;> with_reducible rfl)
  simp only [Act.put, List.setIfInBounds_toArray, List.set_cons_zero, List.set_cons_succ]
  refine take_at (i := 7) (v := ?v25) rfl (by kernel_rfl) (by kernel_rfl) (by kernel_rfl) (fun _ _ _ h => h) (Or.inl ⟨by rfl, ?y25⟩) hHeld ?t25
  case y25 => (intro wx hSw; have hc2 : wx.cell? ⟨w.heap.size, 2, none⟩ = some (.int .i64 q.2.2.1) := hSw.c 2 (of_decide_eq_true rfl); go_simp <;> with_reducible rfl)
  simp only [Act.put, List.setIfInBounds_toArray, List.set_cons_zero, List.set_cons_succ]
  refine take_at (i := 9) (v := ?v26) rfl (by kernel_rfl) (by kernel_rfl) (by kernel_rfl) (fun _ _ _ h => h) (Or.inl ⟨by rfl, ?y26⟩) hHeld ?t26
  case y26 => (intro wx hSw; go_simp <;> with_reducible rfl)
  simp only [Act.put, List.setIfInBounds_toArray, List.set_cons_zero, List.set_cons_succ]
  refine take_at (i := 10) (v := ?v27) rfl (by kernel_rfl) (by kernel_rfl) (by kernel_rfl) (fun _ _ _ h => h) (Or.inl ⟨by rfl, ?y27⟩) hHeld ?t27
  case y27 => (intro wx hSw; have hc3 : wx.cell? ⟨w.heap.size, 3, none⟩ = some (.int .i64 q.2.2.2) := hSw.c 3 (of_decide_eq_true rfl); go_simp <;> with_reducible rfl)
  simp only [Act.put, List.setIfInBounds_toArray, List.set_cons_zero, List.set_cons_succ]
  refine call_at (i := 2) (by kernel_rfl) rfl (fun K hK => ?_)
  go_simp
  refine (minus_any q.1 _).mono ?_
  rintro e w1 ⟨rfl, k1⟩
  generalize e1 : minusS q.1 = r1
  have E1 : Hid _ := e1
  clear e1
  have K1 : Below w.heap.size w w1 := bel_then (Below.drew (bel_al (bel_al (Below.refl w.heap.size w) _) _)) k1
  have B0_1 : Arr w.heap.size [.int .i64 q.1, .int .i64 q.2.1, .int .i64 q.2.2.1, .int .i64 q.2.2.2] w1 := ((Arr_at _ _ [.int .i64 q.1, .int .i64 q.2.1, .int .i64 q.2.2.1, .int .i64 q.2.2.2] _ (by simp)).alloc _).drew.below k1
  have B1_1 : Arr (w.heap.size + 1) [.int .i64 0, .int .i64 0, .int .i64 0, .int .i64 0] w1 := (Arr_at _ _ [.int .i64 0, .int .i64 0, .int .i64 0, .int .i64 0] _ (by simp)).drew.below k1
  have z1 := B1_1.lies
  clear hHeld
  refine hK.out _ _ B0_1 (fun hHeld => ?_)
  clear hK K k1
  refine call_at (i := 5) (by kernel_rfl) rfl (fun K hK => ?_)
  go_simp
  refine (minus_any q.2.1 _).mono ?_
  rintro e w2 ⟨rfl, k2⟩
  generalize e2 : minusS q.2.1 = r2
  have E2 : Hid _ := e2
  clear e2
  have K2 : Below w.heap.size w w2 := bel_then K1 k2
  have B0_2 : Arr w.heap.size [.int .i64 q.1, .int .i64 q.2.1, .int .i64 q.2.2.1, .int .i64 q.2.2.2] w2 := B0_1.below k2
  have B1_2 : Arr (w.heap.size + 1) [.int .i64 0, .int .i64 0, .int .i64 0, .int .i64 0] w2 := B1_1.below k2
  have z2 := B1_2.lies
  clear hHeld
  refine hK.out _ _ B0_2 (fun hHeld => ?_)
  clear hK K K1 B0_1 B1_1 k2
  refine call_at (i := 8) (by kernel_rfl) rfl (fun K hK => ?_)
  go_simp
  refine (minus_any q.2.2.1 _).mono ?_
  rintro e w3 ⟨rfl, k3⟩
  generalize e3 : minusS q.2.2.1 = r3
  have E3 : Hid _ := e3
  clear e3
  have K3 : Below w.heap.size w w3 := bel_then K2 k3
  have B0_3 : Arr w.heap.size [.int .i64 q.1, .int .i64 q.2.1, .int .i64 q.2.2.1, .int .i64 q.2.2.2] w3 := B0_2.below k3
  have B1_3 : Arr (w.heap.size + 1) [.int .i64 0, .int .i64 0, .int .i64 0, .int .i64 0] w3 := B1_2.below k3
  have z3 := B1_3.lies
  clear hHeld
  refine hK.out _ _ B0_3 (fun hHeld => ?_)
  clear hK K K2 B0_2 B1_2 k3
  refine take_at (i := 11) (v := ?v28) rfl (by kernel_rfl) (by kernel_rfl) (by kernel_rfl) (fun _ _ _ h => h) (Or.inl ⟨by rfl, ?y28⟩) hHeld ?t28
  case y28 => (intro wx hSw; go_simp <;> with_reducible rfl)
  simp only [Act.put, List.setIfInBounds_toArray, List.set_cons_zero, List.set_cons_succ]
  refine call_at (i := 12) (by kernel_rfl) rfl (fun K hK => ?_)
  have c2_B1_0 : w3.cell? ⟨w.heap.size + 1, 0, none⟩ = some (.int .i64 0) := B1_3.c 0 (of_decide_eq_true rfl)
  have c2_B1_1 : w3.cell? ⟨w.heap.size + 1, 1, none⟩ = some (.int .i64 0) := B1_3.c 1 (of_decide_eq_true rfl)
  have c2_B1_2 : w3.cell? ⟨w.heap.size + 1, 2, none⟩ = some (.int .i64 0) := B1_3.c 2 (of_decide_eq_true rfl)
  have c2_B1_3 : w3.cell? ⟨w.heap.size + 1, 3, none⟩ = some (.int .i64 0) := B1_3.c 3 (of_decide_eq_true rfl)
  have g2_B1_0 := B1_3.f 0 (of_decide_eq_true rfl)
  have g2_B1_1 := B1_3.f 1 (of_decide_eq_true rfl)
  have g2_B1_2 := B1_3.f 2 (of_decide_eq_true rfl)
  have g2_B1_3 := B1_3.f 3 (of_decide_eq_true rfl)
  go_simp
  clear hHeld
  refine hK.out _ _ ((((B0_3.new _ _ (by omega) _).new _ _ (by omega) _).new _ _ (by omega) _).new _ _ (by omega) _) (fun hHeld => ?_)
  clear hK K c2_B1_0 c2_B1_1 c2_B1_2 c2_B1_3 g2_B1_0 g2_B1_1 g2_B1_2 g2_B1_3
  refine wpAnyH_done (by kernel_rfl) ?_ _
  clear hHeld
  go_wp2
  have d0 := Arr.c (B1_3.put 0 (of_decide_eq_true rfl) (.int .i64 r1) [.int .i64 r1, .int .i64 0, .int .i64 0, .int .i64 0] rfl) 0 (of_decide_eq_true rfl)
  have d1 := Arr.c ((B1_3.put 0 (of_decide_eq_true rfl) (.int .i64 r1) [.int .i64 r1, .int .i64 0, .int .i64 0, .int .i64 0] rfl).put 1 (of_decide_eq_true rfl) (.int .i64 r2) [.int .i64 r1, .int .i64 r2, .int .i64 0, .int .i64 0] rfl) 1 (of_decide_eq_true rfl)
  have d2 := Arr.c (((B1_3.put 0 (of_decide_eq_true rfl) (.int .i64 r1) [.int .i64 r1, .int .i64 0, .int .i64 0, .int .i64 0] rfl).put 1 (of_decide_eq_true rfl) (.int .i64 r2) [.int .i64 r1, .int .i64 r2, .int .i64 0, .int .i64 0] rfl).put 2 (of_decide_eq_true rfl) (.int .i64 r3) [.int .i64 r1, .int .i64 r2, .int .i64 r3, .int .i64 0] rfl) 2 (of_decide_eq_true rfl)
  have d3 := Arr.c ((((B1_3.put 0 (of_decide_eq_true rfl) (.int .i64 r1) [.int .i64 r1, .int .i64 0, .int .i64 0, .int .i64 0] rfl).put 1 (of_decide_eq_true rfl) (.int .i64 r2) [.int .i64 r1, .int .i64 r2, .int .i64 0, .int .i64 0] rfl).put 2 (of_decide_eq_true rfl) (.int .i64 r3) [.int .i64 r1, .int .i64 r2, .int .i64 r3, .int .i64 0] rfl).put 3 (of_decide_eq_true rfl) (.int .i64 q.2.2.2) [.int .i64 r1, .int .i64 r2, .int .i64 r3, .int .i64 q.2.2.2] rfl) 3 (of_decide_eq_true rfl)
  refine bodyPost_ret (v := .agg #[.int .i64 r1, .int .i64 r2, .int .i64 r3, .int .i64 q.2.2.2]) (by simp [results, Try.results19, go_sem, d0, d1, d2, d3]) rfl ?_
  have hs : qBackS q = (r1, r2, r3, q.2.2.2) := by unfold qBackS; simp only [E1.out, E2.out, E3.out]
  rw [hs]
  exact ⟨rfl, (bel_new (bel_new (bel_new (bel_new K3 _ _ (by omega) _) _ _ (by omega) _) _ _ (by omega) _) _ _ (by omega) _)⟩
theorem parted_any (q : V4) (w : World) :
    Calls Try.prog 31 #[.agg #[.int .i64 q.1, .int .i64 q.2.1, .int .i64 q.2.2.1, .int .i64 q.2.2.2]] w fun e w' => e = .returned (.tuple #[.agg #[.int .i64 q.1, .int .i64 q.2.1, .int .i64 q.2.2.1], .int .i64 q.2.2.2]) ∧ Below w.heap.size w w' := parted_any0 q w
theorem joined_any (p : V3) (k : Int) (w : World) :
    Calls Try.prog 43 #[.agg #[.int .i64 p.1, .int .i64 p.2.1, .int .i64 p.2.2], .int .i64 k] w fun e w' => e = .returned (.agg #[.int .i64 p.1, .int .i64 p.2.1, .int .i64 p.2.2, .int .i64 k]) ∧ Below w.heap.size w w' := joined_any0 p k w
end Go.Proofs.Ytkeijfbpkdelpaa
