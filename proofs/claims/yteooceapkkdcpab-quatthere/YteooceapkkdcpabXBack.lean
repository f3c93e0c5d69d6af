/-
  Walks of package alidaderef04, for the seat Yteooceapkkdcpab. (Made by mkref04.py.)
-/
import Derived.Test.YteooceapkkdcpabXBase
import Derived.Handy
import Derived.Deep.RegionHeld3
namespace Go.Proofs.Yteooceapkkdcpab
open Go.RowKit

set_option maxRecDepth 100000 in
set_option maxHeartbeats 2000000 in
theorem xBack_any (q : V4) (w : World) :
    Calls Try.prog 13 #[.agg #[.int .i64 q.1, .int .i64 q.2.1, .int .i64 q.2.2.1, .int .i64 q.2.2.2]] w fun e w' => e = .returned (.agg #[.int .i64 (xBackS q).1, .int .i64 (xBackS q).2.1, .int .i64 (xBackS q).2.2.1, .int .i64 (xBackS q).2.2.2]) ∧ Below w.heap.size w w' := by
  go_enter Try.func13, Try.ntmps13
  go_wp2_with fail
  refine wp_loop_rounds 40 ?_
  rw [rounds_succ]
  by_cases hc1 : q.1 ≥ (-4611686018427387904)
  · have Hhc1 : Hid (q.1 ≥ (-4611686018427387904)) := hc1
    by_cases hc2 : q.1 ≤ 4611686018427387904
    · have Hhc2 : Hid (q.1 ≤ 4611686018427387904) := hc2
      go_wp2_with fail
      rw [rounds_succ]
      by_cases hc3 : q.2.1 ≥ (-4611686018427387904)
      · have Hhc3 : Hid (q.2.1 ≥ (-4611686018427387904)) := hc3
        by_cases hc4 : q.2.1 ≤ 4611686018427387904
        · have Hhc4 : Hid (q.2.1 ≤ 4611686018427387904) := hc4
          go_wp2_with fail
          rw [rounds_succ]
          by_cases hc5 : q.2.2.1 ≥ (-4611686018427387904)
          · have Hhc5 : Hid (q.2.2.1 ≥ (-4611686018427387904)) := hc5
            by_cases hc6 : q.2.2.1 ≤ 4611686018427387904
            · have Hhc6 : Hid (q.2.2.1 ≤ 4611686018427387904) := hc6
              go_wp2_with fail
              rw [rounds_succ]
              go_wp2
              refine bodyPost_ret (v := .agg #[.int .i64 (-q.1), .int .i64 (-q.2.1), .int .i64 (-q.2.2.1), .int .i64 q.2.2.2]) (by simp [results, Try.results13, go_sem]) rfl ?_
              have hs : xBackS q = ((-q.1), (-q.2.1), (-q.2.2.1), q.2.2.2) := by unfold xBackS; rw [if_pos (by have := Hhc1.out; omega)]; rw [if_pos (by have := Hhc2.out; omega)]; rw [if_pos (by have := Hhc3.out; omega)]; rw [if_pos (by have := Hhc4.out; omega)]; rw [if_pos (by have := Hhc5.out; omega)]; rw [if_pos (by have := Hhc6.out; omega)]
              rw [hs]
              exact ⟨rfl, (bel_al (bel_al (Below.refl w.heap.size w) _) _)⟩
            · have Hhc6 : Hid (¬ q.2.2.1 ≤ 4611686018427387904) := hc6
              go_wp2_with fail
              rw [rounds_succ]
              go_wp2
              refine bodyPost_ret (v := .agg #[.int .i64 (-q.1), .int .i64 (-q.2.1), .int .i64 q.2.2.1, .int .i64 q.2.2.2]) (by simp [results, Try.results13, go_sem]) rfl ?_
              have hs : xBackS q = ((-q.1), (-q.2.1), q.2.2.1, q.2.2.2) := by unfold xBackS; rw [if_pos (by have := Hhc1.out; omega)]; rw [if_pos (by have := Hhc2.out; omega)]; rw [if_pos (by have := Hhc3.out; omega)]; rw [if_pos (by have := Hhc4.out; omega)]; rw [if_pos (by have := Hhc5.out; omega)]; rw [if_neg (by have := Hhc6.out; omega)]
              rw [hs]
              exact ⟨rfl, (bel_al (bel_al (Below.refl w.heap.size w) _) _)⟩
          · have Hhc5 : Hid (¬ q.2.2.1 ≥ (-4611686018427387904)) := hc5
            go_wp2_with fail
            rw [rounds_succ]
            go_wp2
            refine bodyPost_ret (v := .agg #[.int .i64 (-q.1), .int .i64 (-q.2.1), .int .i64 q.2.2.1, .int .i64 q.2.2.2]) (by simp [results, Try.results13, go_sem]) rfl ?_
            have hs : xBackS q = ((-q.1), (-q.2.1), q.2.2.1, q.2.2.2) := by unfold xBackS; rw [if_pos (by have := Hhc1.out; omega)]; rw [if_pos (by have := Hhc2.out; omega)]; rw [if_pos (by have := Hhc3.out; omega)]; rw [if_pos (by have := Hhc4.out; omega)]; rw [if_neg (by have := Hhc5.out; omega)]
            rw [hs]
            exact ⟨rfl, (bel_al (bel_al (Below.refl w.heap.size w) _) _)⟩
        · have Hhc4 : Hid (¬ q.2.1 ≤ 4611686018427387904) := hc4
          go_wp2_with fail
          rw [rounds_succ]
          by_cases hc5 : q.2.2.1 ≥ (-4611686018427387904)
          · have Hhc5 : Hid (q.2.2.1 ≥ (-4611686018427387904)) := hc5
            by_cases hc6 : q.2.2.1 ≤ 4611686018427387904
            · have Hhc6 : Hid (q.2.2.1 ≤ 4611686018427387904) := hc6
              go_wp2_with fail
              rw [rounds_succ]
              go_wp2
              refine bodyPost_ret (v := .agg #[.int .i64 (-q.1), .int .i64 q.2.1, .int .i64 (-q.2.2.1), .int .i64 q.2.2.2]) (by simp [results, Try.results13, go_sem]) rfl ?_
              have hs : xBackS q = ((-q.1), q.2.1, (-q.2.2.1), q.2.2.2) := by unfold xBackS; rw [if_pos (by have := Hhc1.out; omega)]; rw [if_pos (by have := Hhc2.out; omega)]; rw [if_pos (by have := Hhc3.out; omega)]; rw [if_neg (by have := Hhc4.out; omega)]; rw [if_pos (by have := Hhc5.out; omega)]; rw [if_pos (by have := Hhc6.out; omega)]
              rw [hs]
              exact ⟨rfl, (bel_al (bel_al (Below.refl w.heap.size w) _) _)⟩
            · have Hhc6 : Hid (¬ q.2.2.1 ≤ 4611686018427387904) := hc6
              go_wp2_with fail
              rw [rounds_succ]
              go_wp2
              refine bodyPost_ret (v := .agg #[.int .i64 (-q.1), .int .i64 q.2.1, .int .i64 q.2.2.1, .int .i64 q.2.2.2]) (by simp [results, Try.results13, go_sem]) rfl ?_
              have hs : xBackS q = ((-q.1), q.2.1, q.2.2.1, q.2.2.2) := by unfold xBackS; rw [if_pos (by have := Hhc1.out; omega)]; rw [if_pos (by have := Hhc2.out; omega)]; rw [if_pos (by have := Hhc3.out; omega)]; rw [if_neg (by have := Hhc4.out; omega)]; rw [if_pos (by have := Hhc5.out; omega)]; rw [if_neg (by have := Hhc6.out; omega)]
              rw [hs]
              exact ⟨rfl, (bel_al (bel_al (Below.refl w.heap.size w) _) _)⟩
          · have Hhc5 : Hid (¬ q.2.2.1 ≥ (-4611686018427387904)) := hc5
            go_wp2_with fail
            rw [rounds_succ]
            go_wp2
            refine bodyPost_ret (v := .agg #[.int .i64 (-q.1), .int .i64 q.2.1, .int .i64 q.2.2.1, .int .i64 q.2.2.2]) (by simp [results, Try.results13, go_sem]) rfl ?_
            have hs : xBackS q = ((-q.1), q.2.1, q.2.2.1, q.2.2.2) := by unfold xBackS; rw [if_pos (by have := Hhc1.out; omega)]; rw [if_pos (by have := Hhc2.out; omega)]; rw [if_pos (by have := Hhc3.out; omega)]; rw [if_neg (by have := Hhc4.out; omega)]; rw [if_neg (by have := Hhc5.out; omega)]
            rw [hs]
            exact ⟨rfl, (bel_al (bel_al (Below.refl w.heap.size w) _) _)⟩
      · have Hhc3 : Hid (¬ q.2.1 ≥ (-4611686018427387904)) := hc3
        go_wp2_with fail
        rw [rounds_succ]
        by_cases hc4 : q.2.2.1 ≥ (-4611686018427387904)
        · have Hhc4 : Hid (q.2.2.1 ≥ (-4611686018427387904)) := hc4
          by_cases hc5 : q.2.2.1 ≤ 4611686018427387904
          · have Hhc5 : Hid (q.2.2.1 ≤ 4611686018427387904) := hc5
            go_wp2_with fail
            rw [rounds_succ]
            go_wp2
            refine bodyPost_ret (v := .agg #[.int .i64 (-q.1), .int .i64 q.2.1, .int .i64 (-q.2.2.1), .int .i64 q.2.2.2]) (by simp [results, Try.results13, go_sem]) rfl ?_
            have hs : xBackS q = ((-q.1), q.2.1, (-q.2.2.1), q.2.2.2) := by unfold xBackS; rw [if_pos (by have := Hhc1.out; omega)]; rw [if_pos (by have := Hhc2.out; omega)]; rw [if_neg (by have := Hhc3.out; omega)]; rw [if_pos (by have := Hhc4.out; omega)]; rw [if_pos (by have := Hhc5.out; omega)]
            rw [hs]
            exact ⟨rfl, (bel_al (bel_al (Below.refl w.heap.size w) _) _)⟩
          · have Hhc5 : Hid (¬ q.2.2.1 ≤ 4611686018427387904) := hc5
            go_wp2_with fail
            rw [rounds_succ]
            go_wp2
            refine bodyPost_ret (v := .agg #[.int .i64 (-q.1), .int .i64 q.2.1, .int .i64 q.2.2.1, .int .i64 q.2.2.2]) (by simp [results, Try.results13, go_sem]) rfl ?_
            have hs : xBackS q = ((-q.1), q.2.1, q.2.2.1, q.2.2.2) := by unfold xBackS; rw [if_pos (by have := Hhc1.out; omega)]; rw [if_pos (by have := Hhc2.out; omega)]; rw [if_neg (by have := Hhc3.out; omega)]; rw [if_pos (by have := Hhc4.out; omega)]; rw [if_neg (by have := Hhc5.out; omega)]
            rw [hs]
            exact ⟨rfl, (bel_al (bel_al (Below.refl w.heap.size w) _) _)⟩
        · have Hhc4 : Hid (¬ q.2.2.1 ≥ (-4611686018427387904)) := hc4
          go_wp2_with fail
          rw [rounds_succ]
          go_wp2
          refine bodyPost_ret (v := .agg #[.int .i64 (-q.1), .int .i64 q.2.1, .int .i64 q.2.2.1, .int .i64 q.2.2.2]) (by simp [results, Try.results13, go_sem]) rfl ?_
          have hs : xBackS q = ((-q.1), q.2.1, q.2.2.1, q.2.2.2) := by unfold xBackS; rw [if_pos (by have := Hhc1.out; omega)]; rw [if_pos (by have := Hhc2.out; omega)]; rw [if_neg (by have := Hhc3.out; omega)]; rw [if_neg (by have := Hhc4.out; omega)]
          rw [hs]
          exact ⟨rfl, (bel_al (bel_al (Below.refl w.heap.size w) _) _)⟩
    · have Hhc2 : Hid (¬ q.1 ≤ 4611686018427387904) := hc2
      go_wp2_with fail
      rw [rounds_succ]
      by_cases hc3 : q.2.1 ≥ (-4611686018427387904)
      · have Hhc3 : Hid (q.2.1 ≥ (-4611686018427387904)) := hc3
        by_cases hc4 : q.2.1 ≤ 4611686018427387904
        · have Hhc4 : Hid (q.2.1 ≤ 4611686018427387904) := hc4
          go_wp2_with fail
          rw [rounds_succ]
          by_cases hc5 : q.2.2.1 ≥ (-4611686018427387904)
          · have Hhc5 : Hid (q.2.2.1 ≥ (-4611686018427387904)) := hc5
            by_cases hc6 : q.2.2.1 ≤ 4611686018427387904
            · have Hhc6 : Hid (q.2.2.1 ≤ 4611686018427387904) := hc6
              go_wp2_with fail
              rw [rounds_succ]
              go_wp2
              refine bodyPost_ret (v := .agg #[.int .i64 q.1, .int .i64 (-q.2.1), .int .i64 (-q.2.2.1), .int .i64 q.2.2.2]) (by simp [results, Try.results13, go_sem]) rfl ?_
              have hs : xBackS q = (q.1, (-q.2.1), (-q.2.2.1), q.2.2.2) := by unfold xBackS; rw [if_pos (by have := Hhc1.out; omega)]; rw [if_neg (by have := Hhc2.out; omega)]; rw [if_pos (by have := Hhc3.out; omega)]; rw [if_pos (by have := Hhc4.out; omega)]; rw [if_pos (by have := Hhc5.out; omega)]; rw [if_pos (by have := Hhc6.out; omega)]
              rw [hs]
              exact ⟨rfl, (bel_al (bel_al (Below.refl w.heap.size w) _) _)⟩
            · have Hhc6 : Hid (¬ q.2.2.1 ≤ 4611686018427387904) := hc6
              go_wp2_with fail
              rw [rounds_succ]
              go_wp2
              refine bodyPost_ret (v := .agg #[.int .i64 q.1, .int .i64 (-q.2.1), .int .i64 q.2.2.1, .int .i64 q.2.2.2]) (by simp [results, Try.results13, go_sem]) rfl ?_
              have hs : xBackS q = (q.1, (-q.2.1), q.2.2.1, q.2.2.2) := by unfold xBackS; rw [if_pos (by have := Hhc1.out; omega)]; rw [if_neg (by have := Hhc2.out; omega)]; rw [if_pos (by have := Hhc3.out; omega)]; rw [if_pos (by have := Hhc4.out; omega)]; rw [if_pos (by have := Hhc5.out; omega)]; rw [if_neg (by have := Hhc6.out; omega)]
              rw [hs]
              exact ⟨rfl, (bel_al (bel_al (Below.refl w.heap.size w) _) _)⟩
          · have Hhc5 : Hid (¬ q.2.2.1 ≥ (-4611686018427387904)) := hc5
            go_wp2_with fail
            rw [rounds_succ]
            go_wp2
            refine bodyPost_ret (v := .agg #[.int .i64 q.1, .int .i64 (-q.2.1), .int .i64 q.2.2.1, .int .i64 q.2.2.2]) (by simp [results, Try.results13, go_sem]) rfl ?_
            have hs : xBackS q = (q.1, (-q.2.1), q.2.2.1, q.2.2.2) := by unfold xBackS; rw [if_pos (by have := Hhc1.out; omega)]; rw [if_neg (by have := Hhc2.out; omega)]; rw [if_pos (by have := Hhc3.out; omega)]; rw [if_pos (by have := Hhc4.out; omega)]; rw [if_neg (by have := Hhc5.out; omega)]
            rw [hs]
            exact ⟨rfl, (bel_al (bel_al (Below.refl w.heap.size w) _) _)⟩
        · have Hhc4 : Hid (¬ q.2.1 ≤ 4611686018427387904) := hc4
          go_wp2_with fail
          rw [rounds_succ]
          by_cases hc5 : q.2.2.1 ≥ (-4611686018427387904)
          · have Hhc5 : Hid (q.2.2.1 ≥ (-4611686018427387904)) := hc5
            by_cases hc6 : q.2.2.1 ≤ 4611686018427387904
            · have Hhc6 : Hid (q.2.2.1 ≤ 4611686018427387904) := hc6
              go_wp2_with fail
              rw [rounds_succ]
              go_wp2
              refine bodyPost_ret (v := .agg #[.int .i64 q.1, .int .i64 q.2.1, .int .i64 (-q.2.2.1), .int .i64 q.2.2.2]) (by simp [results, Try.results13, go_sem]) rfl ?_
              have hs : xBackS q = (q.1, q.2.1, (-q.2.2.1), q.2.2.2) := by unfold xBackS; rw [if_pos (by have := Hhc1.out; omega)]; rw [if_neg (by have := Hhc2.out; omega)]; rw [if_pos (by have := Hhc3.out; omega)]; rw [if_neg (by have := Hhc4.out; omega)]; rw [if_pos (by have := Hhc5.out; omega)]; rw [if_pos (by have := Hhc6.out; omega)]
              rw [hs]
              exact ⟨rfl, (bel_al (bel_al (Below.refl w.heap.size w) _) _)⟩
            · have Hhc6 : Hid (¬ q.2.2.1 ≤ 4611686018427387904) := hc6
              go_wp2_with fail
              rw [rounds_succ]
              go_wp2
              refine bodyPost_ret (v := .agg #[.int .i64 q.1, .int .i64 q.2.1, .int .i64 q.2.2.1, .int .i64 q.2.2.2]) (by simp [results, Try.results13, go_sem]) rfl ?_
              have hs : xBackS q = q := by unfold xBackS; rw [if_pos (by have := Hhc1.out; omega)]; rw [if_neg (by have := Hhc2.out; omega)]; rw [if_pos (by have := Hhc3.out; omega)]; rw [if_neg (by have := Hhc4.out; omega)]; rw [if_pos (by have := Hhc5.out; omega)]; rw [if_neg (by have := Hhc6.out; omega)]
              rw [hs]
              exact ⟨rfl, (bel_al (bel_al (Below.refl w.heap.size w) _) _)⟩
          · have Hhc5 : Hid (¬ q.2.2.1 ≥ (-4611686018427387904)) := hc5
            go_wp2_with fail
            rw [rounds_succ]
            go_wp2
            refine bodyPost_ret (v := .agg #[.int .i64 q.1, .int .i64 q.2.1, .int .i64 q.2.2.1, .int .i64 q.2.2.2]) (by simp [results, Try.results13, go_sem]) rfl ?_
            have hs : xBackS q = q := by unfold xBackS; rw [if_pos (by have := Hhc1.out; omega)]; rw [if_neg (by have := Hhc2.out; omega)]; rw [if_pos (by have := Hhc3.out; omega)]; rw [if_neg (by have := Hhc4.out; omega)]; rw [if_neg (by have := Hhc5.out; omega)]
            rw [hs]
            exact ⟨rfl, (bel_al (bel_al (Below.refl w.heap.size w) _) _)⟩
      · have Hhc3 : Hid (¬ q.2.1 ≥ (-4611686018427387904)) := hc3
        go_wp2_with fail
        rw [rounds_succ]
        by_cases hc4 : q.2.2.1 ≥ (-4611686018427387904)
        · have Hhc4 : Hid (q.2.2.1 ≥ (-4611686018427387904)) := hc4
          by_cases hc5 : q.2.2.1 ≤ 4611686018427387904
          · have Hhc5 : Hid (q.2.2.1 ≤ 4611686018427387904) := hc5
            go_wp2_with fail
            rw [rounds_succ]
            go_wp2
            refine bodyPost_ret (v := .agg #[.int .i64 q.1, .int .i64 q.2.1, .int .i64 (-q.2.2.1), .int .i64 q.2.2.2]) (by simp [results, Try.results13, go_sem]) rfl ?_
            have hs : xBackS q = (q.1, q.2.1, (-q.2.2.1), q.2.2.2) := by unfold xBackS; rw [if_pos (by have := Hhc1.out; omega)]; rw [if_neg (by have := Hhc2.out; omega)]; rw [if_neg (by have := Hhc3.out; omega)]; rw [if_pos (by have := Hhc4.out; omega)]; rw [if_pos (by have := Hhc5.out; omega)]
            rw [hs]
            exact ⟨rfl, (bel_al (bel_al (Below.refl w.heap.size w) _) _)⟩
          · have Hhc5 : Hid (¬ q.2.2.1 ≤ 4611686018427387904) := hc5
            go_wp2_with fail
            rw [rounds_succ]
            go_wp2
            refine bodyPost_ret (v := .agg #[.int .i64 q.1, .int .i64 q.2.1, .int .i64 q.2.2.1, .int .i64 q.2.2.2]) (by simp [results, Try.results13, go_sem]) rfl ?_
            have hs : xBackS q = q := by unfold xBackS; rw [if_pos (by have := Hhc1.out; omega)]; rw [if_neg (by have := Hhc2.out; omega)]; rw [if_neg (by have := Hhc3.out; omega)]; rw [if_pos (by have := Hhc4.out; omega)]; rw [if_neg (by have := Hhc5.out; omega)]
            rw [hs]
            exact ⟨rfl, (bel_al (bel_al (Below.refl w.heap.size w) _) _)⟩
        · have Hhc4 : Hid (¬ q.2.2.1 ≥ (-4611686018427387904)) := hc4
          go_wp2_with fail
          rw [rounds_succ]
          go_wp2
          refine bodyPost_ret (v := .agg #[.int .i64 q.1, .int .i64 q.2.1, .int .i64 q.2.2.1, .int .i64 q.2.2.2]) (by simp [results, Try.results13, go_sem]) rfl ?_
          have hs : xBackS q = q := by unfold xBackS; rw [if_pos (by have := Hhc1.out; omega)]; rw [if_neg (by have := Hhc2.out; omega)]; rw [if_neg (by have := Hhc3.out; omega)]; rw [if_neg (by have := Hhc4.out; omega)]
          rw [hs]
          exact ⟨rfl, (bel_al (bel_al (Below.refl w.heap.size w) _) _)⟩
  · have Hhc1 : Hid (¬ q.1 ≥ (-4611686018427387904)) := hc1
    go_wp2_with fail
    rw [rounds_succ]
    by_cases hc2 : q.2.1 ≥ (-4611686018427387904)
    · have Hhc2 : Hid (q.2.1 ≥ (-4611686018427387904)) := hc2
      by_cases hc3 : q.2.1 ≤ 4611686018427387904
      · have Hhc3 : Hid (q.2.1 ≤ 4611686018427387904) := hc3
        go_wp2_with fail
        rw [rounds_succ]
        by_cases hc4 : q.2.2.1 ≥ (-4611686018427387904)
        · have Hhc4 : Hid (q.2.2.1 ≥ (-4611686018427387904)) := hc4
          by_cases hc5 : q.2.2.1 ≤ 4611686018427387904
          · have Hhc5 : Hid (q.2.2.1 ≤ 4611686018427387904) := hc5
            go_wp2_with fail
            rw [rounds_succ]
            go_wp2
            refine bodyPost_ret (v := .agg #[.int .i64 q.1, .int .i64 (-q.2.1), .int .i64 (-q.2.2.1), .int .i64 q.2.2.2]) (by simp [results, Try.results13, go_sem]) rfl ?_
            have hs : xBackS q = (q.1, (-q.2.1), (-q.2.2.1), q.2.2.2) := by unfold xBackS; rw [if_neg (by have := Hhc1.out; omega)]; rw [if_pos (by have := Hhc2.out; omega)]; rw [if_pos (by have := Hhc3.out; omega)]; rw [if_pos (by have := Hhc4.out; omega)]; rw [if_pos (by have := Hhc5.out; omega)]
            rw [hs]
            exact ⟨rfl, (bel_al (bel_al (Below.refl w.heap.size w) _) _)⟩
          · have Hhc5 : Hid (¬ q.2.2.1 ≤ 4611686018427387904) := hc5
            go_wp2_with fail
            rw [rounds_succ]
            go_wp2
            refine bodyPost_ret (v := .agg #[.int .i64 q.1, .int .i64 (-q.2.1), .int .i64 q.2.2.1, .int .i64 q.2.2.2]) (by simp [results, Try.results13, go_sem]) rfl ?_
            have hs : xBackS q = (q.1, (-q.2.1), q.2.2.1, q.2.2.2) := by unfold xBackS; rw [if_neg (by have := Hhc1.out; omega)]; rw [if_pos (by have := Hhc2.out; omega)]; rw [if_pos (by have := Hhc3.out; omega)]; rw [if_pos (by have := Hhc4.out; omega)]; rw [if_neg (by have := Hhc5.out; omega)]
            rw [hs]
            exact ⟨rfl, (bel_al (bel_al (Below.refl w.heap.size w) _) _)⟩
        · have Hhc4 : Hid (¬ q.2.2.1 ≥ (-4611686018427387904)) := hc4
          go_wp2_with fail
          rw [rounds_succ]
          go_wp2
          refine bodyPost_ret (v := .agg #[.int .i64 q.1, .int .i64 (-q.2.1), .int .i64 q.2.2.1, .int .i64 q.2.2.2]) (by simp [results, Try.results13, go_sem]) rfl ?_
          have hs : xBackS q = (q.1, (-q.2.1), q.2.2.1, q.2.2.2) := by unfold xBackS; rw [if_neg (by have := Hhc1.out; omega)]; rw [if_pos (by have := Hhc2.out; omega)]; rw [if_pos (by have := Hhc3.out; omega)]; rw [if_neg (by have := Hhc4.out; omega)]
          rw [hs]
          exact ⟨rfl, (bel_al (bel_al (Below.refl w.heap.size w) _) _)⟩
      · have Hhc3 : Hid (¬ q.2.1 ≤ 4611686018427387904) := hc3
        go_wp2_with fail
        rw [rounds_succ]
        by_cases hc4 : q.2.2.1 ≥ (-4611686018427387904)
        · have Hhc4 : Hid (q.2.2.1 ≥ (-4611686018427387904)) := hc4
          by_cases hc5 : q.2.2.1 ≤ 4611686018427387904
          · have Hhc5 : Hid (q.2.2.1 ≤ 4611686018427387904) := hc5
            go_wp2_with fail
            rw [rounds_succ]
            go_wp2
            refine bodyPost_ret (v := .agg #[.int .i64 q.1, .int .i64 q.2.1, .int .i64 (-q.2.2.1), .int .i64 q.2.2.2]) (by simp [results, Try.results13, go_sem]) rfl ?_
            have hs : xBackS q = (q.1, q.2.1, (-q.2.2.1), q.2.2.2) := by unfold xBackS; rw [if_neg (by have := Hhc1.out; omega)]; rw [if_pos (by have := Hhc2.out; omega)]; rw [if_neg (by have := Hhc3.out; omega)]; rw [if_pos (by have := Hhc4.out; omega)]; rw [if_pos (by have := Hhc5.out; omega)]
            rw [hs]
            exact ⟨rfl, (bel_al (bel_al (Below.refl w.heap.size w) _) _)⟩
          · have Hhc5 : Hid (¬ q.2.2.1 ≤ 4611686018427387904) := hc5
            go_wp2_with fail
            rw [rounds_succ]
            go_wp2
            refine bodyPost_ret (v := .agg #[.int .i64 q.1, .int .i64 q.2.1, .int .i64 q.2.2.1, .int .i64 q.2.2.2]) (by simp [results, Try.results13, go_sem]) rfl ?_
            have hs : xBackS q = q := by unfold xBackS; rw [if_neg (by have := Hhc1.out; omega)]; rw [if_pos (by have := Hhc2.out; omega)]; rw [if_neg (by have := Hhc3.out; omega)]; rw [if_pos (by have := Hhc4.out; omega)]; rw [if_neg (by have := Hhc5.out; omega)]
            rw [hs]
            exact ⟨rfl, (bel_al (bel_al (Below.refl w.heap.size w) _) _)⟩
        · have Hhc4 : Hid (¬ q.2.2.1 ≥ (-4611686018427387904)) := hc4
          go_wp2_with fail
          rw [rounds_succ]
          go_wp2
          refine bodyPost_ret (v := .agg #[.int .i64 q.1, .int .i64 q.2.1, .int .i64 q.2.2.1, .int .i64 q.2.2.2]) (by simp [results, Try.results13, go_sem]) rfl ?_
          have hs : xBackS q = q := by unfold xBackS; rw [if_neg (by have := Hhc1.out; omega)]; rw [if_pos (by have := Hhc2.out; omega)]; rw [if_neg (by have := Hhc3.out; omega)]; rw [if_neg (by have := Hhc4.out; omega)]
          rw [hs]
          exact ⟨rfl, (bel_al (bel_al (Below.refl w.heap.size w) _) _)⟩
    · have Hhc2 : Hid (¬ q.2.1 ≥ (-4611686018427387904)) := hc2
      go_wp2_with fail
      rw [rounds_succ]
      by_cases hc3 : q.2.2.1 ≥ (-4611686018427387904)
      · have Hhc3 : Hid (q.2.2.1 ≥ (-4611686018427387904)) := hc3
        by_cases hc4 : q.2.2.1 ≤ 4611686018427387904
        · have Hhc4 : Hid (q.2.2.1 ≤ 4611686018427387904) := hc4
          go_wp2_with fail
          rw [rounds_succ]
          go_wp2
          refine bodyPost_ret (v := .agg #[.int .i64 q.1, .int .i64 q.2.1, .int .i64 (-q.2.2.1), .int .i64 q.2.2.2]) (by simp [results, Try.results13, go_sem]) rfl ?_
          have hs : xBackS q = (q.1, q.2.1, (-q.2.2.1), q.2.2.2) := by unfold xBackS; rw [if_neg (by have := Hhc1.out; omega)]; rw [if_neg (by have := Hhc2.out; omega)]; rw [if_pos (by have := Hhc3.out; omega)]; rw [if_pos (by have := Hhc4.out; omega)]
          rw [hs]
          exact ⟨rfl, (bel_al (bel_al (Below.refl w.heap.size w) _) _)⟩
        · have Hhc4 : Hid (¬ q.2.2.1 ≤ 4611686018427387904) := hc4
          go_wp2_with fail
          rw [rounds_succ]
          go_wp2
          refine bodyPost_ret (v := .agg #[.int .i64 q.1, .int .i64 q.2.1, .int .i64 q.2.2.1, .int .i64 q.2.2.2]) (by simp [results, Try.results13, go_sem]) rfl ?_
          have hs : xBackS q = q := by unfold xBackS; rw [if_neg (by have := Hhc1.out; omega)]; rw [if_neg (by have := Hhc2.out; omega)]; rw [if_pos (by have := Hhc3.out; omega)]; rw [if_neg (by have := Hhc4.out; omega)]
          rw [hs]
          exact ⟨rfl, (bel_al (bel_al (Below.refl w.heap.size w) _) _)⟩
      · have Hhc3 : Hid (¬ q.2.2.1 ≥ (-4611686018427387904)) := hc3
        go_wp2_with fail
        rw [rounds_succ]
        go_wp2
        refine bodyPost_ret (v := .agg #[.int .i64 q.1, .int .i64 q.2.1, .int .i64 q.2.2.1, .int .i64 q.2.2.2]) (by simp [results, Try.results13, go_sem]) rfl ?_
        have hs : xBackS q = q := by unfold xBackS; rw [if_neg (by have := Hhc1.out; omega)]; rw [if_neg (by have := Hhc2.out; omega)]; rw [if_neg (by have := Hhc3.out; omega)]
        rw [hs]
        exact ⟨rfl, (bel_al (bel_al (Below.refl w.heap.size w) _) _)⟩
end Go.Proofs.Yteooceapkkdcpab
