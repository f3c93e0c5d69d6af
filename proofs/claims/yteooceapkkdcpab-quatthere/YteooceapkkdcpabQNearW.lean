/-
  The walk of alidadelaw04.near, for the seat Yteooceapkkdcpab. (Made by mklaw04.py.)
-/
import Derived.Test.YteooceapkkdcpabQAwake
import Derived.Test.YteooceapkkdcpabQEqv
import Derived.Test.YteooceapkkdcpabVEqv
import Derived.Handy
import Derived.Deep.RegionHeld3
namespace Go.Proofs.Yteooceapkkdcpab
open Go.RowKit

def nearS (a : V3) (b : V3) (k : Int) : Bool := if (a.1 - b.1) > k then false else if (a.1 - b.1) < (-k) then false else if (a.2.1 - b.2.1) > k then false else if (a.2.1 - b.2.1) < (-k) then false else if (a.2.2 - b.2.2) > k then false else if (a.2.2 - b.2.2) < (-k) then false else true
set_option maxRecDepth 100000 in
set_option maxHeartbeats 2000000 in
theorem near_any (a : V3) (b : V3) (k : Int) (w : World) (h0 : -9223372036854775808 ≤ a.1 - b.1 ∧ a.1 - b.1 ≤ 9223372036854775807) (h1 : -9223372036854775808 ≤ a.2.1 - b.2.1 ∧ a.2.1 - b.2.1 ≤ 9223372036854775807) (h2 : -9223372036854775808 ≤ a.2.2 - b.2.2 ∧ a.2.2 - b.2.2 ≤ 9223372036854775807) (hk : 0 ≤ k ∧ k ≤ 4611686018427387904) :
    Calls Try.prog 7 #[.agg #[.int .i64 a.1, .int .i64 a.2.1, .int .i64 a.2.2], .agg #[.int .i64 b.1, .int .i64 b.2.1, .int .i64 b.2.2], .int .i64 k] w fun e w' => e = .returned (.bool (nearS a b k)) ∧ Below w.heap.size w w' := by
  obtain ⟨h0a, h0b⟩ := h0
  obtain ⟨h1a, h1b⟩ := h1
  obtain ⟨h2a, h2b⟩ := h2
  obtain ⟨hka, hkb⟩ := hk
  go_enter Try.func7, Try.ntmps7
  go_wp2_with fail
  refine wp_loop_rounds 4 ?_
  rw [rounds_succ]
  go_wp2_with fail
  refine wp_region_held_drew (S := fun w' => Arr w.heap.size [.int .i64 a.1, .int .i64 a.2.1, .int .i64 a.2.2] w' ∧ Arr (w.heap.size + 1) [.int .i64 b.1, .int .i64 b.2.1, .int .i64 b.2.2] w') (by kernel_rfl) ⟨((Arr_at _ _ [.int .i64 a.1, .int .i64 a.2.1, .int .i64 a.2.2] _ (by simp)).alloc _).drew, (Arr_at _ _ [.int .i64 b.1, .int .i64 b.2.1, .int .i64 b.2.2] _ (by simp)).drew⟩ (fun hHeld => ?_)
  refine take_at (i := 0) (v := ?v120) rfl (by kernel_rfl) (by kernel_rfl) (by kernel_rfl) (fun _ _ _ h => h) (Or.inl ⟨by rfl, ?y120⟩) hHeld ?t120
  case y120 => (intro wx hSw; go_simp <;> with_reducible rfl)
  simp only [Act.put, List.setIfInBounds_toArray, List.set_cons_zero, List.set_cons_succ]
  refine take_at (i := 1) (v := ?v121) rfl (by kernel_rfl) (by kernel_rfl) (by kernel_rfl) (fun _ _ _ h => h) (Or.inl ⟨by rfl, ?y121⟩) hHeld ?t121
  case y121 => (intro wx hSw; go_simp <;> with_reducible rfl)
  simp only [Act.put, List.setIfInBounds_toArray, List.set_cons_zero, List.set_cons_succ]
  refine take_at (i := 2) (v := ?v122) rfl (by kernel_rfl) (by kernel_rfl) (by kernel_rfl) (fun _ _ _ h => h) (Or.inl ⟨by rfl, ?y122⟩) hHeld ?t122
  case y122 => (intro wx hSw; have hc0 : wx.cell? ⟨w.heap.size, 0, none⟩ = some (.int .i64 a.1) := hSw.1.c 0 (of_decide_eq_true rfl); go_simp <;> with_reducible rfl)
  simp only [Act.put, List.setIfInBounds_toArray, List.set_cons_zero, List.set_cons_succ]
  refine take_at (i := 3) (v := ?v123) rfl (by kernel_rfl) (by kernel_rfl) (by kernel_rfl) (fun _ _ _ h => h) (Or.inl ⟨by rfl, ?y123⟩) hHeld ?t123
  case y123 => (intro wx hSw; go_simp <;> with_reducible rfl)
  simp only [Act.put, List.setIfInBounds_toArray, List.set_cons_zero, List.set_cons_succ]
  refine take_at (i := 4) (v := ?v124) rfl (by kernel_rfl) (by kernel_rfl) (by kernel_rfl) (fun _ _ _ h => h) (Or.inl ⟨by rfl, ?y124⟩) hHeld ?t124
  case y124 => (intro wx hSw; go_simp <;> with_reducible rfl)
  simp only [Act.put, List.setIfInBounds_toArray, List.set_cons_zero, List.set_cons_succ]
  refine take_at (i := 5) (v := ?v125) rfl (by kernel_rfl) (by kernel_rfl) (by kernel_rfl) (fun _ _ _ h => h) (Or.inl ⟨by rfl, ?y125⟩) hHeld ?t125
  case y125 => (intro wx hSw; have hc0 : wx.cell? ⟨w.heap.size + 1, 0, none⟩ = some (.int .i64 b.1) := hSw.2.c 0 (of_decide_eq_true rfl); go_simp <;> with_reducible rfl)
  simp only [Act.put, List.setIfInBounds_toArray, List.set_cons_zero, List.set_cons_succ]
  refine take_at (i := 6) (v := ?v126) rfl (by kernel_rfl) (by kernel_rfl) (by kernel_rfl) (fun _ _ _ h => h) (Or.inl ⟨by rfl, ?y126⟩) hHeld ?t126
  case y126 => (intro wx hSw; go_simp <;> with_reducible rfl)
  simp only [Act.put, List.setIfInBounds_toArray, List.set_cons_zero, List.set_cons_succ]
  rw [IntWalk.i64_in (a.1 - b.1) (by omega)]
  refine take_at (i := 7) (v := ?v127) rfl (by kernel_rfl) (by kernel_rfl) (by kernel_rfl) (fun _ _ _ h => h) (Or.inl ⟨by rfl, ?y127⟩) hHeld ?t127
  case y127 => (intro wx hSw; go_simp <;> with_reducible rfl)
  simp only [Act.put, List.setIfInBounds_toArray, List.set_cons_zero, List.set_cons_succ]
  refine wpAnyH_done (by kernel_rfl) ?_ _
  clear hHeld
  by_cases hc1 : (a.1 - b.1) > k
  · have Hhc1 : Hid ((a.1 - b.1) > k) := hc1
    go_wp2
    go_ret
    have hs : nearS a b k = false := by unfold nearS; rw [if_pos (by have := Hhc1.out; omega)]
    rw [hs]
    exact ⟨rfl, (Below.drew (bel_al (bel_al (Below.refl w.heap.size w) _) _))⟩
  · have Hhc1 : Hid (¬ (a.1 - b.1) > k) := hc1
    by_cases hc2 : (a.1 - b.1) < (-k)
    · have Hhc2 : Hid ((a.1 - b.1) < (-k)) := hc2
      go_wp2
      go_ret
      have hs : nearS a b k = false := by unfold nearS; rw [if_neg (by have := Hhc1.out; omega)]; rw [if_pos (by have := Hhc2.out; omega)]
      rw [hs]
      exact ⟨rfl, (Below.drew (bel_al (bel_al (Below.refl w.heap.size w) _) _))⟩
    · have Hhc2 : Hid (¬ (a.1 - b.1) < (-k)) := hc2
      go_wp2_with fail
      rw [rounds_succ]
      go_wp2_with fail
      refine wp_region_held_drew (S := fun w' => Arr w.heap.size [.int .i64 a.1, .int .i64 a.2.1, .int .i64 a.2.2] w' ∧ Arr (w.heap.size + 1) [.int .i64 b.1, .int .i64 b.2.1, .int .i64 b.2.2] w') (by kernel_rfl) ⟨((Arr_at _ _ [.int .i64 a.1, .int .i64 a.2.1, .int .i64 a.2.2] _ (by simp)).alloc _).drew.drew, (Arr_at _ _ [.int .i64 b.1, .int .i64 b.2.1, .int .i64 b.2.2] _ (by simp)).drew.drew⟩ (fun hHeld => ?_)
      refine take_at (i := 0) (v := ?v128) rfl (by kernel_rfl) (by kernel_rfl) (by kernel_rfl) (fun _ _ _ h => h) (Or.inl ⟨by rfl, ?y128⟩) hHeld ?t128
      case y128 => (intro wx hSw; go_simp <;> with_reducible rfl)
      simp only [Act.put, List.setIfInBounds_toArray, List.set_cons_zero, List.set_cons_succ]
      refine take_at (i := 1) (v := ?v129) rfl (by kernel_rfl) (by kernel_rfl) (by kernel_rfl) (fun _ _ _ h => h) (Or.inl ⟨by rfl, ?y129⟩) hHeld ?t129
      case y129 => (intro wx hSw; go_simp <;> with_reducible rfl)
      simp only [Act.put, List.setIfInBounds_toArray, List.set_cons_zero, List.set_cons_succ]
      refine take_at (i := 2) (v := ?v130) rfl (by kernel_rfl) (by kernel_rfl) (by kernel_rfl) (fun _ _ _ h => h) (Or.inl ⟨by rfl, ?y130⟩) hHeld ?t130
      case y130 => (intro wx hSw; have hc1 : wx.cell? ⟨w.heap.size, 1, none⟩ = some (.int .i64 a.2.1) := hSw.1.c 1 (of_decide_eq_true rfl); go_simp <;> with_reducible rfl)
      simp only [Act.put, List.setIfInBounds_toArray, List.set_cons_zero, List.set_cons_succ]
      refine take_at (i := 3) (v := ?v131) rfl (by kernel_rfl) (by kernel_rfl) (by kernel_rfl) (fun _ _ _ h => h) (Or.inl ⟨by rfl, ?y131⟩) hHeld ?t131
      case y131 => (intro wx hSw; go_simp <;> with_reducible rfl)
      simp only [Act.put, List.setIfInBounds_toArray, List.set_cons_zero, List.set_cons_succ]
      refine take_at (i := 4) (v := ?v132) rfl (by kernel_rfl) (by kernel_rfl) (by kernel_rfl) (fun _ _ _ h => h) (Or.inl ⟨by rfl, ?y132⟩) hHeld ?t132
      case y132 => (intro wx hSw; go_simp <;> with_reducible rfl)
      simp only [Act.put, List.setIfInBounds_toArray, List.set_cons_zero, List.set_cons_succ]
      refine take_at (i := 5) (v := ?v133) rfl (by kernel_rfl) (by kernel_rfl) (by kernel_rfl) (fun _ _ _ h => h) (Or.inl ⟨by rfl, ?y133⟩) hHeld ?t133
      case y133 => (intro wx hSw; have hc1 : wx.cell? ⟨w.heap.size + 1, 1, none⟩ = some (.int .i64 b.2.1) := hSw.2.c 1 (of_decide_eq_true rfl); go_simp <;> with_reducible rfl)
      simp only [Act.put, List.setIfInBounds_toArray, List.set_cons_zero, List.set_cons_succ]
      refine take_at (i := 6) (v := ?v134) rfl (by kernel_rfl) (by kernel_rfl) (by kernel_rfl) (fun _ _ _ h => h) (Or.inl ⟨by rfl, ?y134⟩) hHeld ?t134
      case y134 => (intro wx hSw; go_simp <;> with_reducible rfl)
      simp only [Act.put, List.setIfInBounds_toArray, List.set_cons_zero, List.set_cons_succ]
      rw [IntWalk.i64_in (a.2.1 - b.2.1) (by omega)]
      refine take_at (i := 7) (v := ?v135) rfl (by kernel_rfl) (by kernel_rfl) (by kernel_rfl) (fun _ _ _ h => h) (Or.inl ⟨by rfl, ?y135⟩) hHeld ?t135
      case y135 => (intro wx hSw; go_simp <;> with_reducible rfl)
      simp only [Act.put, List.setIfInBounds_toArray, List.set_cons_zero, List.set_cons_succ]
      refine wpAnyH_done (by kernel_rfl) ?_ _
      clear hHeld
      by_cases hc3 : (a.2.1 - b.2.1) > k
      · have Hhc3 : Hid ((a.2.1 - b.2.1) > k) := hc3
        go_wp2
        go_ret
        have hs : nearS a b k = false := by unfold nearS; rw [if_neg (by have := Hhc1.out; omega)]; rw [if_neg (by have := Hhc2.out; omega)]; rw [if_pos (by have := Hhc3.out; omega)]
        rw [hs]
        exact ⟨rfl, (Below.drew (Below.drew (bel_al (bel_al (Below.refl w.heap.size w) _) _)))⟩
      · have Hhc3 : Hid (¬ (a.2.1 - b.2.1) > k) := hc3
        by_cases hc4 : (a.2.1 - b.2.1) < (-k)
        · have Hhc4 : Hid ((a.2.1 - b.2.1) < (-k)) := hc4
          go_wp2
          go_ret
          have hs : nearS a b k = false := by unfold nearS; rw [if_neg (by have := Hhc1.out; omega)]; rw [if_neg (by have := Hhc2.out; omega)]; rw [if_neg (by have := Hhc3.out; omega)]; rw [if_pos (by have := Hhc4.out; omega)]
          rw [hs]
          exact ⟨rfl, (Below.drew (Below.drew (bel_al (bel_al (Below.refl w.heap.size w) _) _)))⟩
        · have Hhc4 : Hid (¬ (a.2.1 - b.2.1) < (-k)) := hc4
          go_wp2_with fail
          rw [rounds_succ]
          go_wp2_with fail
          refine wp_region_held_drew (S := fun w' => Arr w.heap.size [.int .i64 a.1, .int .i64 a.2.1, .int .i64 a.2.2] w' ∧ Arr (w.heap.size + 1) [.int .i64 b.1, .int .i64 b.2.1, .int .i64 b.2.2] w') (by kernel_rfl) ⟨((Arr_at _ _ [.int .i64 a.1, .int .i64 a.2.1, .int .i64 a.2.2] _ (by simp)).alloc _).drew.drew.drew, (Arr_at _ _ [.int .i64 b.1, .int .i64 b.2.1, .int .i64 b.2.2] _ (by simp)).drew.drew.drew⟩ (fun hHeld => ?_)
          refine take_at (i := 0) (v := ?v136) rfl (by kernel_rfl) (by kernel_rfl) (by kernel_rfl) (fun _ _ _ h => h) (Or.inl ⟨by rfl, ?y136⟩) hHeld ?t136
          case y136 => (intro wx hSw; go_simp <;> with_reducible rfl)
          simp only [Act.put, List.setIfInBounds_toArray, List.set_cons_zero, List.set_cons_succ]
          refine take_at (i := 1) (v := ?v137) rfl (by kernel_rfl) (by kernel_rfl) (by kernel_rfl) (fun _ _ _ h => h) (Or.inl ⟨by rfl, ?y137⟩) hHeld ?t137
          case y137 => (intro wx hSw; go_simp <;> with_reducible rfl)
          simp only [Act.put, List.setIfInBounds_toArray, List.set_cons_zero, List.set_cons_succ]
          refine take_at (i := 2) (v := ?v138) rfl (by kernel_rfl) (by kernel_rfl) (by kernel_rfl) (fun _ _ _ h => h) (Or.inl ⟨by rfl, ?y138⟩) hHeld ?t138
          case y138 => (intro wx hSw; have hc2 : wx.cell? ⟨w.heap.size, 2, none⟩ = some (.int .i64 a.2.2) := hSw.1.c 2 (of_decide_eq_true rfl); go_simp <;> with_reducible rfl)
          simp only [Act.put, List.setIfInBounds_toArray, List.set_cons_zero, List.set_cons_succ]
          refine take_at (i := 3) (v := ?v139) rfl (by kernel_rfl) (by kernel_rfl) (by kernel_rfl) (fun _ _ _ h => h) (Or.inl ⟨by rfl, ?y139⟩) hHeld ?t139
          case y139 => (intro wx hSw; go_simp <;> with_reducible rfl)
          simp only [Act.put, List.setIfInBounds_toArray, List.set_cons_zero, List.set_cons_succ]
          refine take_at (i := 4) (v := ?v140) rfl (by kernel_rfl) (by kernel_rfl) (by kernel_rfl) (fun _ _ _ h => h) (Or.inl ⟨by rfl, ?y140⟩) hHeld ?t140
          case y140 => (intro wx hSw; go_simp <;> with_reducible rfl)
          simp only [Act.put, List.setIfInBounds_toArray, List.set_cons_zero, List.set_cons_succ]
          refine take_at (i := 5) (v := ?v141) rfl (by kernel_rfl) (by kernel_rfl) (by kernel_rfl) (fun _ _ _ h => h) (Or.inl ⟨by rfl, ?y141⟩) hHeld ?t141
          case y141 => (intro wx hSw; have hc2 : wx.cell? ⟨w.heap.size + 1, 2, none⟩ = some (.int .i64 b.2.2) := hSw.2.c 2 (of_decide_eq_true rfl); go_simp <;> with_reducible rfl)
          simp only [Act.put, List.setIfInBounds_toArray, List.set_cons_zero, List.set_cons_succ]
          refine take_at (i := 6) (v := ?v142) rfl (by kernel_rfl) (by kernel_rfl) (by kernel_rfl) (fun _ _ _ h => h) (Or.inl ⟨by rfl, ?y142⟩) hHeld ?t142
          case y142 => (intro wx hSw; go_simp <;> with_reducible rfl)
          simp only [Act.put, List.setIfInBounds_toArray, List.set_cons_zero, List.set_cons_succ]
          rw [IntWalk.i64_in (a.2.2 - b.2.2) (by omega)]
          refine take_at (i := 7) (v := ?v143) rfl (by kernel_rfl) (by kernel_rfl) (by kernel_rfl) (fun _ _ _ h => h) (Or.inl ⟨by rfl, ?y143⟩) hHeld ?t143
          case y143 => (intro wx hSw; go_simp <;> with_reducible rfl)
          simp only [Act.put, List.setIfInBounds_toArray, List.set_cons_zero, List.set_cons_succ]
          refine wpAnyH_done (by kernel_rfl) ?_ _
          clear hHeld
          by_cases hc5 : (a.2.2 - b.2.2) > k
          · have Hhc5 : Hid ((a.2.2 - b.2.2) > k) := hc5
            go_wp2
            go_ret
            have hs : nearS a b k = false := by unfold nearS; rw [if_neg (by have := Hhc1.out; omega)]; rw [if_neg (by have := Hhc2.out; omega)]; rw [if_neg (by have := Hhc3.out; omega)]; rw [if_neg (by have := Hhc4.out; omega)]; rw [if_pos (by have := Hhc5.out; omega)]
            rw [hs]
            exact ⟨rfl, (Below.drew (Below.drew (Below.drew (bel_al (bel_al (Below.refl w.heap.size w) _) _))))⟩
          · have Hhc5 : Hid (¬ (a.2.2 - b.2.2) > k) := hc5
            by_cases hc6 : (a.2.2 - b.2.2) < (-k)
            · have Hhc6 : Hid ((a.2.2 - b.2.2) < (-k)) := hc6
              go_wp2
              go_ret
              have hs : nearS a b k = false := by unfold nearS; rw [if_neg (by have := Hhc1.out; omega)]; rw [if_neg (by have := Hhc2.out; omega)]; rw [if_neg (by have := Hhc3.out; omega)]; rw [if_neg (by have := Hhc4.out; omega)]; rw [if_neg (by have := Hhc5.out; omega)]; rw [if_pos (by have := Hhc6.out; omega)]
              rw [hs]
              exact ⟨rfl, (Below.drew (Below.drew (Below.drew (bel_al (bel_al (Below.refl w.heap.size w) _) _))))⟩
            · have Hhc6 : Hid (¬ (a.2.2 - b.2.2) < (-k)) := hc6
              go_wp2_with fail
              rw [rounds_succ]
              go_wp2
              go_ret
              have hs : nearS a b k = true := by unfold nearS; rw [if_neg (by have := Hhc1.out; omega)]; rw [if_neg (by have := Hhc2.out; omega)]; rw [if_neg (by have := Hhc3.out; omega)]; rw [if_neg (by have := Hhc4.out; omega)]; rw [if_neg (by have := Hhc5.out; omega)]; rw [if_neg (by have := Hhc6.out; omega)]
              rw [hs]
              exact ⟨rfl, (Below.drew (Below.drew (Below.drew (bel_al (bel_al (Below.refl w.heap.size w) _) _))))⟩
end Go.Proofs.Yteooceapkkdcpab
