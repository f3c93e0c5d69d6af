/-
  The walks of orbit.Right, for the seat Ytpceomcnknjiiaa. (Made by mkorbit.py.)
-/
import Derived.Test.YtpceomcnknjiiaaJA
import Derived.Test.YtpceomcnknjiiaaJB
import Derived.Handy
import Derived.Deep.RegionHeld3
namespace Go.Proofs.Ytpceomcnknjiiaa
open Go.RowKit

set_option maxRecDepth 100000 in
set_option maxHeartbeats 2000000 in
theorem oFar_any (a : Int) (k : Int) (w : World) (he0 : 0 ≤ k) (he1 : k ≤ 109951162777) :
    Calls Try.prog 15 #[.int .i64 a, .int .i64 k] w fun e w' => e = .returned (.bool (oFarC a k)) ∧ Below w.heap.size w w' := by
  go_enter Try.func15, Try.ntmps15
  go_wp2_with fail
  refine (Mul_any w.heap.size false a (1099511627776 - k) _ (Fl_at _ _ _ _ (by simp))).mono ?_
  rintro e w1 ⟨rfl, f1, k1⟩
  generalize e1 : mulS false a (1099511627776 - k) = r1 at f1 ⊢
  have E1 : Hid _ := e1
  clear e1
  have K1 : Below w.heap.size w w1 := k1.on (bel_al (Below.refl w.heap.size w) _) (by omega)
  have z1 := f1.lies
  clear k1
  go_wp2_with fail
  refine (Mul_any w.heap.size r1.2 a (1099511627776 + k) _ f1).mono ?_
  rintro e w2 ⟨rfl, f2, k2⟩
  generalize e2 : mulS r1.2 a (1099511627776 + k) = r2 at f2 ⊢
  have E2 : Hid _ := e2
  clear e2
  have K2 : Below w.heap.size w w2 := k2.on K1 (by omega)
  have z2 := f2.lies
  clear K1 f1 k2
  rcases Bool.eq_false_or_eq_true r2.2 with hc1 | hc1
  · have Hhc1 : Hid (r2.2 = true) := hc1
    have c3_B0 := f2.cell
    go_wp2
    clear c3_B0
    go_ret
    have hs : oFarC a k = false := by unfold oFarC; simp only [E1.out, E2.out]; rw [if_pos Hhc1.out]
    rw [hs]
    exact ⟨rfl, K2⟩
  · have Hhc1 : Hid (r2.2 = false) := hc1
    by_cases hc2 : r1.1 ≥ 7232738120604
    · have Hhc2 : Hid (r1.1 ≥ 7232738120604) := hc2
      have c3_B0 := f2.cell
      go_wp2
      clear c3_B0
      go_ret
      have hs : oFarC a k = (decide (r2.1 ≤ 9211859050600)) := by unfold oFarC; simp only [E1.out, E2.out]; rw [if_neg (by rw [Hhc1.out]; decide)]; rw [if_pos (by have := Hhc2.out; omega)]
      rw [hs]
      exact ⟨rfl, K2⟩
    · have Hhc2 : Hid (¬ r1.1 ≥ 7232738120604) := hc2
      have c3_B0 := f2.cell
      go_wp2
      clear c3_B0
      go_ret
      have hs : oFarC a k = false := by unfold oFarC; simp only [E1.out, E2.out]; rw [if_neg (by rw [Hhc1.out]; decide)]; rw [if_neg (by have := Hhc2.out; omega)]
      rw [hs]
      exact ⟨rfl, K2⟩
set_option maxRecDepth 100000 in
set_option maxHeartbeats 2000000 in
theorem oAng_any (a : Int) (w : World) :
    Calls Try.prog 16 #[.int .i64 a] w fun e w' => e = .returned (.bool (oAngC a)) ∧ Below w.heap.size w w' := by
  go_enter Try.func16, Try.ntmps16
  by_cases hc1 : (-6908435304716) ≤ a
  · have Hhc1 : Hid ((-6908435304716) ≤ a) := hc1
    go_wp2
    go_ret
    have hs : oAngC a = (decide (a ≤ 6908435304716)) := by unfold oAngC; rw [if_pos (by have := Hhc1.out; omega)]
    rw [hs]
    exact ⟨rfl, (Below.refl w.heap.size w)⟩
  · have Hhc1 : Hid (¬ (-6908435304716) ≤ a) := hc1
    go_wp2
    go_ret
    have hs : oAngC a = false := by unfold oAngC; rw [if_neg (by have := Hhc1.out; omega)]
    rw [hs]
    exact ⟨rfl, (Below.refl w.heap.size w)⟩
set_option maxRecDepth 100000 in
set_option maxHeartbeats 2000000 in
theorem oRightC_any (o : V7) (w : World) :
    Calls Try.prog 10 #[.agg #[.int .i64 o.1, .int .i64 o.2.1, .int .i64 o.2.2.1, .int .i64 o.2.2.2.1, .int .i64 o.2.2.2.2.1, .int .i64 o.2.2.2.2.2.1, .int .i64 o.2.2.2.2.2.2]] w fun e w' => e = .returned (.bool (oRightC o)) ∧ Below w.heap.size w w' := by
  go_enter Try.func10, Try.ntmps10
  by_cases hc1 : 0 ≤ o.2.1
  · have Hhc1 : Hid (0 ≤ o.2.1) := hc1
    by_cases hc2 : o.2.1 ≤ 109951162777
    · have Hhc2 : Hid (o.2.1 ≤ 109951162777) := hc2
      go_wp2_with fail
      refine (oFar_any o.1 o.2.1 _ (by omega) (by omega)).mono ?_
      rintro e w1 ⟨rfl, k1⟩
      generalize e1 : oFarC o.1 o.2.1 = r1
      have E1 : Hid _ := e1
      clear e1
      have K1 : Below w.heap.size w w1 := bel_then (bel_al (Below.refl w.heap.size w) _) k1
      have B0_1 : Arr w.heap.size [.int .i64 o.1, .int .i64 o.2.1, .int .i64 o.2.2.1, .int .i64 o.2.2.2.1, .int .i64 o.2.2.2.2.1, .int .i64 o.2.2.2.2.2.1, .int .i64 o.2.2.2.2.2.2] w1 := (Arr_at _ _ [.int .i64 o.1, .int .i64 o.2.1, .int .i64 o.2.2.1, .int .i64 o.2.2.2.1, .int .i64 o.2.2.2.2.1, .int .i64 o.2.2.2.2.2.1, .int .i64 o.2.2.2.2.2.2] _ (by simp)).below k1
      have z1 := B0_1.lies
      clear k1
      rcases Bool.eq_false_or_eq_true r1 with hc3 | hc3
      · have Hhc3 : Hid (r1 = true) := hc3
        by_cases hc4 : 0 ≤ o.2.2.1
        · have Hhc4 : Hid (0 ≤ o.2.2.1) := hc4
          by_cases hc5 : o.2.2.1 ≤ 3454217652358
          · have Hhc5 : Hid (o.2.2.1 ≤ 3454217652358) := hc5
            have c2_B0_2 : w1.cell? ⟨w.heap.size, 2, none⟩ = some (.int .i64 o.2.2.1) := B0_1.c 2 (of_decide_eq_true rfl)
            have c2_B0_3 : w1.cell? ⟨w.heap.size, 3, none⟩ = some (.int .i64 o.2.2.2.1) := B0_1.c 3 (of_decide_eq_true rfl)
            go_wp2_with fail
            refine (oAng_any o.2.2.2.1 _).mono ?_
            rintro e w2 ⟨rfl, k2⟩
            generalize e2 : oAngC o.2.2.2.1 = r2
            have E2 : Hid _ := e2
            clear e2
            have K2 : Below w.heap.size w w2 := bel_then K1 k2
            have B0_2 : Arr w.heap.size [.int .i64 o.1, .int .i64 o.2.1, .int .i64 o.2.2.1, .int .i64 o.2.2.2.1, .int .i64 o.2.2.2.2.1, .int .i64 o.2.2.2.2.2.1, .int .i64 o.2.2.2.2.2.2] w2 := B0_1.below k2
            have z2 := B0_2.lies
            clear c2_B0_2 c2_B0_3 K1 B0_1 k2
            rcases Bool.eq_false_or_eq_true r2 with hc6 | hc6
            · have Hhc6 : Hid (r2 = true) := hc6
              have c3_B0_4 : w2.cell? ⟨w.heap.size, 4, none⟩ = some (.int .i64 o.2.2.2.2.1) := B0_2.c 4 (of_decide_eq_true rfl)
              go_wp2_with fail
              refine (oAng_any o.2.2.2.2.1 _).mono ?_
              rintro e w3 ⟨rfl, k3⟩
              generalize e3 : oAngC o.2.2.2.2.1 = r3
              have E3 : Hid _ := e3
              clear e3
              have K3 : Below w.heap.size w w3 := bel_then K2 k3
              have B0_3 : Arr w.heap.size [.int .i64 o.1, .int .i64 o.2.1, .int .i64 o.2.2.1, .int .i64 o.2.2.2.1, .int .i64 o.2.2.2.2.1, .int .i64 o.2.2.2.2.2.1, .int .i64 o.2.2.2.2.2.2] w3 := B0_2.below k3
              have z3 := B0_3.lies
              clear c3_B0_4 K2 B0_2 k3
              rcases Bool.eq_false_or_eq_true r3 with hc7 | hc7
              · have Hhc7 : Hid (r3 = true) := hc7
                have c4_B0_5 : w3.cell? ⟨w.heap.size, 5, none⟩ = some (.int .i64 o.2.2.2.2.2.1) := B0_3.c 5 (of_decide_eq_true rfl)
                go_wp2_with fail
                refine (oAng_any o.2.2.2.2.2.1 _).mono ?_
                rintro e w4 ⟨rfl, k4⟩
                generalize e4 : oAngC o.2.2.2.2.2.1 = r4
                have E4 : Hid _ := e4
                clear e4
                have K4 : Below w.heap.size w w4 := bel_then K3 k4
                have B0_4 : Arr w.heap.size [.int .i64 o.1, .int .i64 o.2.1, .int .i64 o.2.2.1, .int .i64 o.2.2.2.1, .int .i64 o.2.2.2.2.1, .int .i64 o.2.2.2.2.2.1, .int .i64 o.2.2.2.2.2.2] w4 := B0_3.below k4
                have z4 := B0_4.lies
                clear c4_B0_5 K3 B0_3 k4
                rcases Bool.eq_false_or_eq_true r4 with hc8 | hc8
                · have Hhc8 : Hid (r4 = true) := hc8
                  have c5_B0_6 : w4.cell? ⟨w.heap.size, 6, none⟩ = some (.int .i64 o.2.2.2.2.2.2) := B0_4.c 6 (of_decide_eq_true rfl)
                  go_wp2_with fail
                  refine (cRight_any o.2.2.2.2.2.2 _).mono ?_
                  rintro e w5 ⟨rfl, k5⟩
                  generalize e5 : cRight o.2.2.2.2.2.2 = r5
                  have E5 : Hid _ := e5
                  clear e5
                  have K5 : Below w.heap.size w w5 := bel_then K4 k5
                  have B0_5 : Arr w.heap.size [.int .i64 o.1, .int .i64 o.2.1, .int .i64 o.2.2.1, .int .i64 o.2.2.2.1, .int .i64 o.2.2.2.2.1, .int .i64 o.2.2.2.2.2.1, .int .i64 o.2.2.2.2.2.2] w5 := B0_4.below k5
                  have z5 := B0_5.lies
                  clear c5_B0_6 K4 B0_4 k5
                  go_wp2
                  go_ret
                  have hs : oRightC o = r5 := by unfold oRightC; simp only [E1.out, E2.out, E3.out, E4.out, E5.out]; rw [if_pos (by have := Hhc1.out; omega)]; rw [if_pos (by have := Hhc2.out; omega)]; rw [if_pos Hhc3.out]; rw [if_pos (by have := Hhc4.out; omega)]; rw [if_pos (by have := Hhc5.out; omega)]; rw [if_pos Hhc6.out]; rw [if_pos Hhc7.out]; rw [if_pos Hhc8.out]
                  rw [hs]
                  exact ⟨rfl, K5⟩
                · have Hhc8 : Hid (r4 = false) := hc8
                  go_wp2
                  go_ret
                  have hs : oRightC o = false := by unfold oRightC; simp only [E1.out, E2.out, E3.out, E4.out]; rw [if_pos (by have := Hhc1.out; omega)]; rw [if_pos (by have := Hhc2.out; omega)]; rw [if_pos Hhc3.out]; rw [if_pos (by have := Hhc4.out; omega)]; rw [if_pos (by have := Hhc5.out; omega)]; rw [if_pos Hhc6.out]; rw [if_pos Hhc7.out]; rw [if_neg (by rw [Hhc8.out]; decide)]
                  rw [hs]
                  exact ⟨rfl, K4⟩
              · have Hhc7 : Hid (r3 = false) := hc7
                go_wp2
                go_ret
                have hs : oRightC o = false := by unfold oRightC; simp only [E1.out, E2.out, E3.out]; rw [if_pos (by have := Hhc1.out; omega)]; rw [if_pos (by have := Hhc2.out; omega)]; rw [if_pos Hhc3.out]; rw [if_pos (by have := Hhc4.out; omega)]; rw [if_pos (by have := Hhc5.out; omega)]; rw [if_pos Hhc6.out]; rw [if_neg (by rw [Hhc7.out]; decide)]
                rw [hs]
                exact ⟨rfl, K3⟩
            · have Hhc6 : Hid (r2 = false) := hc6
              go_wp2
              go_ret
              have hs : oRightC o = false := by unfold oRightC; simp only [E1.out, E2.out]; rw [if_pos (by have := Hhc1.out; omega)]; rw [if_pos (by have := Hhc2.out; omega)]; rw [if_pos Hhc3.out]; rw [if_pos (by have := Hhc4.out; omega)]; rw [if_pos (by have := Hhc5.out; omega)]; rw [if_neg (by rw [Hhc6.out]; decide)]
              rw [hs]
              exact ⟨rfl, K2⟩
          · have Hhc5 : Hid (¬ o.2.2.1 ≤ 3454217652358) := hc5
            have c2_B0_2 : w1.cell? ⟨w.heap.size, 2, none⟩ = some (.int .i64 o.2.2.1) := B0_1.c 2 (of_decide_eq_true rfl)
            go_wp2
            clear c2_B0_2
            go_ret
            have hs : oRightC o = false := by unfold oRightC; simp only [E1.out]; rw [if_pos (by have := Hhc1.out; omega)]; rw [if_pos (by have := Hhc2.out; omega)]; rw [if_pos Hhc3.out]; rw [if_pos (by have := Hhc4.out; omega)]; rw [if_neg (by have := Hhc5.out; omega)]
            rw [hs]
            exact ⟨rfl, K1⟩
        · have Hhc4 : Hid (¬ 0 ≤ o.2.2.1) := hc4
          have c2_B0_2 : w1.cell? ⟨w.heap.size, 2, none⟩ = some (.int .i64 o.2.2.1) := B0_1.c 2 (of_decide_eq_true rfl)
          go_wp2
          clear c2_B0_2
          go_ret
          have hs : oRightC o = false := by unfold oRightC; simp only [E1.out]; rw [if_pos (by have := Hhc1.out; omega)]; rw [if_pos (by have := Hhc2.out; omega)]; rw [if_pos Hhc3.out]; rw [if_neg (by have := Hhc4.out; omega)]
          rw [hs]
          exact ⟨rfl, K1⟩
      · have Hhc3 : Hid (r1 = false) := hc3
        go_wp2
        go_ret
        have hs : oRightC o = false := by unfold oRightC; simp only [E1.out]; rw [if_pos (by have := Hhc1.out; omega)]; rw [if_pos (by have := Hhc2.out; omega)]; rw [if_neg (by rw [Hhc3.out]; decide)]
        rw [hs]
        exact ⟨rfl, K1⟩
    · have Hhc2 : Hid (¬ o.2.1 ≤ 109951162777) := hc2
      go_wp2
      go_ret
      have hs : oRightC o = false := by unfold oRightC; rw [if_pos (by have := Hhc1.out; omega)]; rw [if_neg (by have := Hhc2.out; omega)]
      rw [hs]
      exact ⟨rfl, (bel_al (Below.refl w.heap.size w) _)⟩
  · have Hhc1 : Hid (¬ 0 ≤ o.2.1) := hc1
    go_wp2
    go_ret
    have hs : oRightC o = false := by unfold oRightC; rw [if_neg (by have := Hhc1.out; omega)]
    rw [hs]
    exact ⟨rfl, (bel_al (Below.refl w.heap.size w) _)⟩
end Go.Proofs.Ytpceomcnknjiiaa
