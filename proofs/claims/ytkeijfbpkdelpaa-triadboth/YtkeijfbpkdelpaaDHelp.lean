/-
  The walk of alidadelaw05's near and long, for the seat Ytkeijfbpkdelpaa. (Made by mklaw05.py.)
-/
import Derived.Test.YtkeijfbpkdelpaaVCode
import Derived.Test.YtkeijfbpkdelpaaQNear
import Derived.Handy
import Derived.Deep.RegionHeld3
namespace Go.Proofs.Ytkeijfbpkdelpaa
open Go.RowKit

def near5S (a : V3) (b : V3) : Bool := if (a.1 - b.1) > 4096 then false else if (a.1 - b.1) < (-4096) then false else if (a.2.1 - b.2.1) > 4096 then false else if (a.2.1 - b.2.1) < (-4096) then false else if (a.2.2 - b.2.2) > 4096 then false else if (a.2.2 - b.2.2) < (-4096) then false else true
set_option maxRecDepth 100000 in
set_option maxHeartbeats 2000000 in
theorem near5_any (a : V3) (b : V3) (w : World) (h0 : -9223372036854775808 ≤ a.1 - b.1 ∧ a.1 - b.1 ≤ 9223372036854775807) (h1 : -9223372036854775808 ≤ a.2.1 - b.2.1 ∧ a.2.1 - b.2.1 ≤ 9223372036854775807) (h2 : -9223372036854775808 ≤ a.2.2 - b.2.2 ∧ a.2.2 - b.2.2 ≤ 9223372036854775807) :
    Calls Try.prog 13 #[.agg #[.int .i64 a.1, .int .i64 a.2.1, .int .i64 a.2.2], .agg #[.int .i64 b.1, .int .i64 b.2.1, .int .i64 b.2.2]] w fun e w' => e = .returned (.bool (near5S a b)) ∧ Below w.heap.size w w' := by
  obtain ⟨h0a, h0b⟩ := h0
  obtain ⟨h1a, h1b⟩ := h1
  obtain ⟨h2a, h2b⟩ := h2
  go_enter Try.func13, Try.ntmps13
  go_wp2_with fail
  refine wp_loop_rounds 4 ?_
  rw [rounds_succ]
  go_wp2_with fail
  refine wp_region_held_drew (S := fun w' => Arr w.heap.size [.int .i64 a.1, .int .i64 a.2.1, .int .i64 a.2.2] w' ∧ Arr (w.heap.size + 1) [.int .i64 b.1, .int .i64 b.2.1, .int .i64 b.2.2] w') (by kernel_rfl) ⟨((Arr_at _ _ [.int .i64 a.1, .int .i64 a.2.1, .int .i64 a.2.2] _ (by simp)).alloc _).drew, (Arr_at _ _ [.int .i64 b.1, .int .i64 b.2.1, .int .i64 b.2.2] _ (by simp)).drew⟩ (fun hHeld => ?_)
  refine take_at (i := 0) (v := ?v44) rfl (by kernel_rfl) (by kernel_rfl) (by kernel_rfl) (fun _ _ _ h => h) (Or.inl ⟨by rfl, ?y44⟩) hHeld ?t44
  case y44 => (intro wx hSw; go_simp <;> with_reducible rfl)
  simp only [Act.put, List.setIfInBounds_toArray, List.set_cons_zero, List.set_cons_succ]
  refine take_at (i := 1) (v := ?v45) rfl (by kernel_rfl) (by kernel_rfl) (by kernel_rfl) (fun _ _ _ h => h) (Or.inl ⟨by rfl, ?y45⟩) hHeld ?t45
  case y45 => (intro wx hSw; go_simp <;> with_reducible rfl)
  simp only [Act.put, List.setIfInBounds_toArray, List.set_cons_zero, List.set_cons_succ]
  refine take_at (i := 2) (v := ?v46) rfl (by kernel_rfl) (by kernel_rfl) (by kernel_rfl) (fun _ _ _ h => h) (Or.inl ⟨by rfl, ?y46⟩) hHeld ?t46
  case y46 => (intro wx hSw; have hc0 : wx.cell? ⟨w.heap.size, 0, none⟩ = some (.int .i64 a.1) := hSw.1.c 0 (of_decide_eq_true rfl); go_simp <;> with_reducible rfl)
  simp only [Act.put, List.setIfInBounds_toArray, List.set_cons_zero, List.set_cons_succ]
  refine take_at (i := 3) (v := ?v47) rfl (by kernel_rfl) (by kernel_rfl) (by kernel_rfl) (fun _ _ _ h => h) (Or.inl ⟨by rfl, ?y47⟩) hHeld ?t47
  case y47 => (intro wx hSw; go_simp <;> with_reducible rfl)
  simp only [Act.put, List.setIfInBounds_toArray, List.set_cons_zero, List.set_cons_succ]
  refine take_at (i := 4) (v := ?v48) rfl (by kernel_rfl) (by kernel_rfl) (by kernel_rfl) (fun _ _ _ h => h) (Or.inl ⟨by rfl, ?y48⟩) hHeld ?t48
  case y48 => (intro wx hSw; go_simp <;> with_reducible rfl)
  simp only [Act.put, List.setIfInBounds_toArray, List.set_cons_zero, List.set_cons_succ]
  refine take_at (i := 5) (v := ?v49) rfl (by kernel_rfl) (by kernel_rfl) (by kernel_rfl) (fun _ _ _ h => h) (Or.inl ⟨by rfl, ?y49⟩) hHeld ?t49
  case y49 => (intro wx hSw; have hc0 : wx.cell? ⟨w.heap.size + 1, 0, none⟩ = some (.int .i64 b.1) := hSw.2.c 0 (of_decide_eq_true rfl); go_simp <;> with_reducible rfl)
  simp only [Act.put, List.setIfInBounds_toArray, List.set_cons_zero, List.set_cons_succ]
  refine take_at (i := 6) (v := ?v50) rfl (by kernel_rfl) (by kernel_rfl) (by kernel_rfl) (fun _ _ _ h => h) (Or.inl ⟨by rfl, ?y50⟩) hHeld ?t50
  case y50 => (intro wx hSw; go_simp <;> with_reducible rfl)
  simp only [Act.put, List.setIfInBounds_toArray, List.set_cons_zero, List.set_cons_succ]
  rw [IntWalk.i64_in (a.1 - b.1) (by omega)]
  refine take_at (i := 7) (v := ?v51) rfl (by kernel_rfl) (by kernel_rfl) (by kernel_rfl) (fun _ _ _ h => h) (Or.inl ⟨by rfl, ?y51⟩) hHeld ?t51
  case y51 => (intro wx hSw; go_simp <;> with_reducible rfl)
  simp only [Act.put, List.setIfInBounds_toArray, List.set_cons_zero, List.set_cons_succ]
  refine wpAnyH_done (by kernel_rfl) ?_ _
  clear hHeld
  by_cases hc1 : (a.1 - b.1) > 4096
  · have Hhc1 : Hid ((a.1 - b.1) > 4096) := hc1
    go_wp2
    go_ret
    have hs : near5S a b = false := by unfold near5S; rw [if_pos (by have := Hhc1.out; omega)]
    rw [hs]
    exact ⟨rfl, (Below.drew (bel_al (bel_al (Below.refl w.heap.size w) _) _))⟩
  · have Hhc1 : Hid (¬ (a.1 - b.1) > 4096) := hc1
    by_cases hc2 : (a.1 - b.1) < (-4096)
    · have Hhc2 : Hid ((a.1 - b.1) < (-4096)) := hc2
      go_wp2
      go_ret
      have hs : near5S a b = false := by unfold near5S; rw [if_neg (by have := Hhc1.out; omega)]; rw [if_pos (by have := Hhc2.out; omega)]
      rw [hs]
      exact ⟨rfl, (Below.drew (bel_al (bel_al (Below.refl w.heap.size w) _) _))⟩
    · have Hhc2 : Hid (¬ (a.1 - b.1) < (-4096)) := hc2
      go_wp2_with fail
      rw [rounds_succ]
      go_wp2_with fail
      refine wp_region_held_drew (S := fun w' => Arr w.heap.size [.int .i64 a.1, .int .i64 a.2.1, .int .i64 a.2.2] w' ∧ Arr (w.heap.size + 1) [.int .i64 b.1, .int .i64 b.2.1, .int .i64 b.2.2] w') (by kernel_rfl) ⟨((Arr_at _ _ [.int .i64 a.1, .int .i64 a.2.1, .int .i64 a.2.2] _ (by simp)).alloc _).drew.drew, (Arr_at _ _ [.int .i64 b.1, .int .i64 b.2.1, .int .i64 b.2.2] _ (by simp)).drew.drew⟩ (fun hHeld => ?_)
      refine take_at (i := 0) (v := ?v52) rfl (by kernel_rfl) (by kernel_rfl) (by kernel_rfl) (fun _ _ _ h => h) (Or.inl ⟨by rfl, ?y52⟩) hHeld ?t52
      case y52 => (intro wx hSw; go_simp <;> with_reducible rfl)
      simp only [Act.put, List.setIfInBounds_toArray, List.set_cons_zero, List.set_cons_succ]
      refine take_at (i := 1) (v := ?v53) rfl (by kernel_rfl) (by kernel_rfl) (by kernel_rfl) (fun _ _ _ h => h) (Or.inl ⟨by rfl, ?y53⟩) hHeld ?t53
      case y53 => (intro wx hSw; go_simp <;> with_reducible rfl)
      simp only [Act.put, List.setIfInBounds_toArray, List.set_cons_zero, List.set_cons_succ]
      refine take_at (i := 2) (v := ?v54) rfl (by kernel_rfl) (by kernel_rfl) (by kernel_rfl) (fun _ _ _ h => h) (Or.inl ⟨by rfl, ?y54⟩) hHeld ?t54
      case y54 => (intro wx hSw; have hc1 : wx.cell? ⟨w.heap.size, 1, none⟩ = some (.int .i64 a.2.1) := hSw.1.c 1 (of_decide_eq_true rfl); go_simp <;> with_reducible rfl)
      simp only [Act.put, List.setIfInBounds_toArray, List.set_cons_zero, List.set_cons_succ]
      refine take_at (i := 3) (v := ?v55) rfl (by kernel_rfl) (by kernel_rfl) (by kernel_rfl) (fun _ _ _ h => h) (Or.inl ⟨by rfl, ?y55⟩) hHeld ?t55
      case y55 => (intro wx hSw; go_simp <;> with_reducible rfl)
      simp only [Act.put, List.setIfInBounds_toArray, List.set_cons_zero, List.set_cons_succ]
      refine take_at (i := 4) (v := ?v56) rfl (by kernel_rfl) (by kernel_rfl) (by kernel_rfl) (fun _ _ _ h => h) (Or.inl ⟨by rfl, ?y56⟩) hHeld ?t56
      case y56 => (intro wx hSw; go_simp <;> with_reducible rfl)
      simp only [Act.put, List.setIfInBounds_toArray, List.set_cons_zero, List.set_cons_succ]
      refine take_at (i := 5) (v := ?v57) rfl (by kernel_rfl) (by kernel_rfl) (by kernel_rfl) (fun _ _ _ h => h) (Or.inl ⟨by rfl, ?y57⟩) hHeld ?t57
      case y57 => (intro wx hSw; have hc1 : wx.cell? ⟨w.heap.size + 1, 1, none⟩ = some (.int .i64 b.2.1) := hSw.2.c 1 (of_decide_eq_true rfl); go_simp <;> with_reducible rfl)
      simp only [Act.put, List.setIfInBounds_toArray, List.set_cons_zero, List.set_cons_succ]
      refine take_at (i := 6) (v := ?v58) rfl (by kernel_rfl) (by kernel_rfl) (by kernel_rfl) (fun _ _ _ h => h) (Or.inl ⟨by rfl, ?y58⟩) hHeld ?t58
      case y58 => (intro wx hSw; go_simp <;> with_reducible rfl)
      simp only [Act.put, List.setIfInBounds_toArray, List.set_cons_zero, List.set_cons_succ]
      rw [IntWalk.i64_in (a.2.1 - b.2.1) (by omega)]
      refine take_at (i := 7) (v := ?v59) rfl (by kernel_rfl) (by kernel_rfl) (by kernel_rfl) (fun _ _ _ h => h) (Or.inl ⟨by rfl, ?y59⟩) hHeld ?t59
      case y59 => (intro wx hSw; go_simp <;> with_reducible rfl)
      simp only [Act.put, List.setIfInBounds_toArray, List.set_cons_zero, List.set_cons_succ]
      refine wpAnyH_done (by kernel_rfl) ?_ _
      clear hHeld
      by_cases hc3 : (a.2.1 - b.2.1) > 4096
      · have Hhc3 : Hid ((a.2.1 - b.2.1) > 4096) := hc3
        go_wp2
        go_ret
        have hs : near5S a b = false := by unfold near5S; rw [if_neg (by have := Hhc1.out; omega)]; rw [if_neg (by have := Hhc2.out; omega)]; rw [if_pos (by have := Hhc3.out; omega)]
        rw [hs]
        exact ⟨rfl, (Below.drew (Below.drew (bel_al (bel_al (Below.refl w.heap.size w) _) _)))⟩
      · have Hhc3 : Hid (¬ (a.2.1 - b.2.1) > 4096) := hc3
        by_cases hc4 : (a.2.1 - b.2.1) < (-4096)
        · have Hhc4 : Hid ((a.2.1 - b.2.1) < (-4096)) := hc4
          go_wp2
          go_ret
          have hs : near5S a b = false := by unfold near5S; rw [if_neg (by have := Hhc1.out; omega)]; rw [if_neg (by have := Hhc2.out; omega)]; rw [if_neg (by have := Hhc3.out; omega)]; rw [if_pos (by have := Hhc4.out; omega)]
          rw [hs]
          exact ⟨rfl, (Below.drew (Below.drew (bel_al (bel_al (Below.refl w.heap.size w) _) _)))⟩
        · have Hhc4 : Hid (¬ (a.2.1 - b.2.1) < (-4096)) := hc4
          go_wp2_with fail
          rw [rounds_succ]
          go_wp2_with fail
          refine wp_region_held_drew (S := fun w' => Arr w.heap.size [.int .i64 a.1, .int .i64 a.2.1, .int .i64 a.2.2] w' ∧ Arr (w.heap.size + 1) [.int .i64 b.1, .int .i64 b.2.1, .int .i64 b.2.2] w') (by kernel_rfl) ⟨((Arr_at _ _ [.int .i64 a.1, .int .i64 a.2.1, .int .i64 a.2.2] _ (by simp)).alloc _).drew.drew.drew, (Arr_at _ _ [.int .i64 b.1, .int .i64 b.2.1, .int .i64 b.2.2] _ (by simp)).drew.drew.drew⟩ (fun hHeld => ?_)
          refine take_at (i := 0) (v := ?v60) rfl (by kernel_rfl) (by kernel_rfl) (by kernel_rfl) (fun _ _ _ h => h) (Or.inl ⟨by rfl, ?y60⟩) hHeld ?t60
          case y60 => (intro wx hSw; go_simp <;> with_reducible rfl)
          simp only [Act.put, List.setIfInBounds_toArray, List.set_cons_zero, List.set_cons_succ]
          refine take_at (i := 1) (v := ?v61) rfl (by kernel_rfl) (by kernel_rfl) (by kernel_rfl) (fun _ _ _ h => h) (Or.inl ⟨by rfl, ?y61⟩) hHeld ?t61
          case y61 => (intro wx hSw; go_simp <;> with_reducible rfl)
          simp only [Act.put, List.setIfInBounds_toArray, List.set_cons_zero, List.set_cons_succ]
          refine take_at (i := 2) (v := ?v62) rfl (by kernel_rfl) (by kernel_rfl) (by kernel_rfl) (fun _ _ _ h => h) (Or.inl ⟨by rfl, ?y62⟩) hHeld ?t62
          case y62 => (intro wx hSw; have hc2 : wx.cell? ⟨w.heap.size, 2, none⟩ = some (.int .i64 a.2.2) := hSw.1.c 2 (of_decide_eq_true rfl); go_simp <;> with_reducible rfl)
          simp only [Act.put, List.setIfInBounds_toArray, List.set_cons_zero, List.set_cons_succ]
          refine take_at (i := 3) (v := ?v63) rfl (by kernel_rfl) (by kernel_rfl) (by kernel_rfl) (fun _ _ _ h => h) (Or.inl ⟨by rfl, ?y63⟩) hHeld ?t63
          case y63 => (intro wx hSw; go_simp <;> with_reducible rfl)
          simp only [Act.put, List.setIfInBounds_toArray, List.set_cons_zero, List.set_cons_succ]
          refine take_at (i := 4) (v := ?v64) rfl (by kernel_rfl) (by kernel_rfl) (by kernel_rfl) (fun _ _ _ h => h) (Or.inl ⟨by rfl, ?y64⟩) hHeld ?t64
          case y64 => (intro wx hSw; go_simp <;> with_reducible rfl)
          simp only [Act.put, List.setIfInBounds_toArray, List.set_cons_zero, List.set_cons_succ]
          refine take_at (i := 5) (v := ?v65) rfl (by kernel_rfl) (by kernel_rfl) (by kernel_rfl) (fun _ _ _ h => h) (Or.inl ⟨by rfl, ?y65⟩) hHeld ?t65
          case y65 => (intro wx hSw; have hc2 : wx.cell? ⟨w.heap.size + 1, 2, none⟩ = some (.int .i64 b.2.2) := hSw.2.c 2 (of_decide_eq_true rfl); go_simp <;> with_reducible rfl)
          simp only [Act.put, List.setIfInBounds_toArray, List.set_cons_zero, List.set_cons_succ]
          refine take_at (i := 6) (v := ?v66) rfl (by kernel_rfl) (by kernel_rfl) (by kernel_rfl) (fun _ _ _ h => h) (Or.inl ⟨by rfl, ?y66⟩) hHeld ?t66
          case y66 => (intro wx hSw; go_simp <;> with_reducible rfl)
          simp only [Act.put, List.setIfInBounds_toArray, List.set_cons_zero, List.set_cons_succ]
          rw [IntWalk.i64_in (a.2.2 - b.2.2) (by omega)]
          refine take_at (i := 7) (v := ?v67) rfl (by kernel_rfl) (by kernel_rfl) (by kernel_rfl) (fun _ _ _ h => h) (Or.inl ⟨by rfl, ?y67⟩) hHeld ?t67
          case y67 => (intro wx hSw; go_simp <;> with_reducible rfl)
          simp only [Act.put, List.setIfInBounds_toArray, List.set_cons_zero, List.set_cons_succ]
          refine wpAnyH_done (by kernel_rfl) ?_ _
          clear hHeld
          by_cases hc5 : (a.2.2 - b.2.2) > 4096
          · have Hhc5 : Hid ((a.2.2 - b.2.2) > 4096) := hc5
            go_wp2
            go_ret
            have hs : near5S a b = false := by unfold near5S; rw [if_neg (by have := Hhc1.out; omega)]; rw [if_neg (by have := Hhc2.out; omega)]; rw [if_neg (by have := Hhc3.out; omega)]; rw [if_neg (by have := Hhc4.out; omega)]; rw [if_pos (by have := Hhc5.out; omega)]
            rw [hs]
            exact ⟨rfl, (Below.drew (Below.drew (Below.drew (bel_al (bel_al (Below.refl w.heap.size w) _) _))))⟩
          · have Hhc5 : Hid (¬ (a.2.2 - b.2.2) > 4096) := hc5
            by_cases hc6 : (a.2.2 - b.2.2) < (-4096)
            · have Hhc6 : Hid ((a.2.2 - b.2.2) < (-4096)) := hc6
              go_wp2
              go_ret
              have hs : near5S a b = false := by unfold near5S; rw [if_neg (by have := Hhc1.out; omega)]; rw [if_neg (by have := Hhc2.out; omega)]; rw [if_neg (by have := Hhc3.out; omega)]; rw [if_neg (by have := Hhc4.out; omega)]; rw [if_neg (by have := Hhc5.out; omega)]; rw [if_pos (by have := Hhc6.out; omega)]
              rw [hs]
              exact ⟨rfl, (Below.drew (Below.drew (Below.drew (bel_al (bel_al (Below.refl w.heap.size w) _) _))))⟩
            · have Hhc6 : Hid (¬ (a.2.2 - b.2.2) < (-4096)) := hc6
              go_wp2_with fail
              rw [rounds_succ]
              go_wp2
              go_ret
              have hs : near5S a b = true := by unfold near5S; rw [if_neg (by have := Hhc1.out; omega)]; rw [if_neg (by have := Hhc2.out; omega)]; rw [if_neg (by have := Hhc3.out; omega)]; rw [if_neg (by have := Hhc4.out; omega)]; rw [if_neg (by have := Hhc5.out; omega)]; rw [if_neg (by have := Hhc6.out; omega)]
              rw [hs]
              exact ⟨rfl, (Below.drew (Below.drew (Below.drew (bel_al (bel_al (Below.refl w.heap.size w) _) _))))⟩
def longS (p : V3) : Bool := let r1 := vNormS false p; if r1.2 then false else if r1.1 ≥ 1099511627776 then (decide (r1.1 ≤ 1099511627776000)) else false
set_option maxRecDepth 100000 in
set_option maxHeartbeats 2000000 in
theorem long_any (p : V3) (w : World) :
    Calls Try.prog 12 #[.agg #[.int .i64 p.1, .int .i64 p.2.1, .int .i64 p.2.2]] w fun e w' => e = .returned (.bool (longS p)) ∧ Below w.heap.size w w' := by
  go_enter Try.func12, Try.ntmps12
  go_wp2_with fail
  refine (vNorm_any (w.heap.size + 1) false p _ (Fl_at _ _ _ _ (by simp))).mono ?_
  rintro e w1 ⟨rfl, f1, k1⟩
  generalize e1 : vNormS false p = r1 at f1 ⊢
  have E1 : Hid _ := e1
  clear e1
  have K1 : Below w.heap.size w w1 := k1.on (bel_al (bel_al (Below.refl w.heap.size w) _) _) (by omega)
  have B0_1 : Arr w.heap.size [.int .i64 p.1, .int .i64 p.2.1, .int .i64 p.2.2] w1 := ((Arr_at _ _ [.int .i64 p.1, .int .i64 p.2.1, .int .i64 p.2.2] _ (by simp)).alloc _).kept k1 (by omega)
  have z1 := f1.lies
  clear k1
  rcases Bool.eq_false_or_eq_true r1.2 with hc1 | hc1
  · have Hhc1 : Hid (r1.2 = true) := hc1
    have c2_B1 := f1.cell
    go_wp2
    clear c2_B1
    go_ret
    have hs : longS p = false := by unfold longS; simp only [E1.out]; rw [if_pos Hhc1.out]
    rw [hs]
    exact ⟨rfl, K1⟩
  · have Hhc1 : Hid (r1.2 = false) := hc1
    by_cases hc2 : r1.1 ≥ 1099511627776
    · have Hhc2 : Hid (r1.1 ≥ 1099511627776) := hc2
      have c2_B1 := f1.cell
      go_wp2
      clear c2_B1
      go_ret
      have hs : longS p = (decide (r1.1 ≤ 1099511627776000)) := by unfold longS; simp only [E1.out]; rw [if_neg (by rw [Hhc1.out]; decide)]; rw [if_pos (by have := Hhc2.out; omega)]
      rw [hs]
      exact ⟨rfl, K1⟩
    · have Hhc2 : Hid (¬ r1.1 ≥ 1099511627776) := hc2
      have c2_B1 := f1.cell
      go_wp2
      clear c2_B1
      go_ret
      have hs : longS p = false := by unfold longS; simp only [E1.out]; rw [if_neg (by rw [Hhc1.out]; decide)]; rw [if_neg (by have := Hhc2.out; omega)]
      rw [hs]
      exact ⟨rfl, K1⟩
theorem near5_yes {a b : V3} (h0 : Ab (a.1 - b.1) 4096) (h1 : Ab (a.2.1 - b.2.1) 4096) (h2 : Ab (a.2.2 - b.2.2) 4096) : near5S a b = true := by
  unfold near5S
  have := h0.lo; have := h0.hi; have := h1.lo; have := h1.hi; have := h2.lo; have := h2.hi
  rw [if_neg (by omega), if_neg (by omega), if_neg (by omega), if_neg (by omega), if_neg (by omega), if_neg (by omega)]
theorem long_get {p : V3} (h : longS p = true) : ∃ n, vNormS false p = (n, false) ∧ 1099511627776 ≤ n := by
  unfold longS at h
  dsimp only at h
  split at h
  · cases h
  split at h
  · rename_i c d
    refine ⟨(vNormS false p).1, ?_, d⟩
    cases hb : (vNormS false p).2
    · exact Prod.ext rfl hb
    · exact absurd hb c
  · cases h
end Go.Proofs.Ytkeijfbpkdelpaa
