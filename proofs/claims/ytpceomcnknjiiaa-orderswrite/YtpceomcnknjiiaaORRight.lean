/-
  The walks of the reference's Right, for the seat Ytpceomcnknjiiaa. (Made by mkorbit.py.)
-/
import Derived.Test.YtpceomcnknjiiaaJA
import Derived.Test.YtpceomcnknjiiaaCDDays
import Derived.Test.YtpceomcnknjiiaaRMeth
import Derived.Test.YtpceomcnknjiiaaJB
import Derived.Handy
import Derived.Deep.RegionHeld3
namespace Go.Proofs.Ytpceomcnknjiiaa
open Go.RowKit

set_option maxRecDepth 100000 in
set_option maxHeartbeats 2000000 in
theorem pAng_any (a : Int) (w : World) :
    Calls Try.prog 19 #[.int .i64 a] w fun e w' => e = .returned (.bool (pAngC a)) ∧ Below w.heap.size w w' := by
  go_enter Try.func19, Try.ntmps19
  by_cases hc1 : a ≥ (-6908435304716)
  · have Hhc1 : Hid (a ≥ (-6908435304716)) := hc1
    go_wp2
    go_ret
    have hs : pAngC a = (decide (a ≤ 6908435304716)) := by unfold pAngC; rw [if_pos (by have := Hhc1.out; omega)]
    rw [hs]
    exact ⟨rfl, (Below.refl w.heap.size w)⟩
  · have Hhc1 : Hid (¬ a ≥ (-6908435304716)) := hc1
    go_wp2
    go_ret
    have hs : pAngC a = false := by unfold pAngC; rw [if_neg (by have := Hhc1.out; omega)]
    rw [hs]
    exact ⟨rfl, (Below.refl w.heap.size w)⟩
set_option maxRecDepth 100000 in
set_option maxHeartbeats 2000000 in
theorem pRightC_any (o : V7) (w : World) :
    Calls Try.prog 12 #[.agg #[.int .i64 o.1, .int .i64 o.2.1, .int .i64 o.2.2.1, .int .i64 o.2.2.2.1, .int .i64 o.2.2.2.2.1, .int .i64 o.2.2.2.2.2.1, .int .i64 o.2.2.2.2.2.2]] w fun e w' => e = .returned (.bool (pRightC o)) ∧ Below w.heap.size w w' := by
  go_enter Try.func12, Try.ntmps12
  by_cases hc1 : o.2.1 < 0
  · have Hhc1 : Hid (o.2.1 < 0) := hc1
    go_wp2
    go_ret
    have hs : pRightC o = false := by unfold pRightC; rw [if_pos (by have := Hhc1.out; omega)]
    rw [hs]
    exact ⟨rfl, (bel_al (Below.refl w.heap.size w) _)⟩
  · have Hhc1 : Hid (¬ o.2.1 < 0) := hc1
    by_cases hc2 : o.2.1 > 109951162777
    · have Hhc2 : Hid (o.2.1 > 109951162777) := hc2
      go_wp2
      go_ret
      have hs : pRightC o = false := by unfold pRightC; rw [if_neg (by have := Hhc1.out; omega)]; rw [if_pos (by have := Hhc2.out; omega)]
      rw [hs]
      exact ⟨rfl, (bel_al (Below.refl w.heap.size w) _)⟩
    · have Hhc2 : Hid (¬ o.2.1 > 109951162777) := hc2
      by_cases hc3 : o.2.2.1 < 0
      · have Hhc3 : Hid (o.2.2.1 < 0) := hc3
        go_wp2
        go_ret
        have hs : pRightC o = false := by unfold pRightC; rw [if_neg (by have := Hhc1.out; omega)]; rw [if_neg (by have := Hhc2.out; omega)]; rw [if_pos (by have := Hhc3.out; omega)]
        rw [hs]
        exact ⟨rfl, (bel_al (Below.refl w.heap.size w) _)⟩
      · have Hhc3 : Hid (¬ o.2.2.1 < 0) := hc3
        by_cases hc4 : o.2.2.1 > 3454217652358
        · have Hhc4 : Hid (o.2.2.1 > 3454217652358) := hc4
          go_wp2
          go_ret
          have hs : pRightC o = false := by unfold pRightC; rw [if_neg (by have := Hhc1.out; omega)]; rw [if_neg (by have := Hhc2.out; omega)]; rw [if_neg (by have := Hhc3.out; omega)]; rw [if_pos (by have := Hhc4.out; omega)]
          rw [hs]
          exact ⟨rfl, (bel_al (Below.refl w.heap.size w) _)⟩
        · have Hhc4 : Hid (¬ o.2.2.1 > 3454217652358) := hc4
          go_wp2_with fail
          refine (pAng_any o.2.2.2.1 _).mono ?_
          rintro e w1 ⟨rfl, k1⟩
          generalize e1 : pAngC o.2.2.2.1 = r1
          have E1 : Hid _ := e1
          clear e1
          have K1 : Below w.heap.size w w1 := bel_then (bel_al (Below.refl w.heap.size w) _) k1
          have B0_1 : Arr w.heap.size [.int .i64 o.1, .int .i64 o.2.1, .int .i64 o.2.2.1, .int .i64 o.2.2.2.1, .int .i64 o.2.2.2.2.1, .int .i64 o.2.2.2.2.2.1, .int .i64 o.2.2.2.2.2.2] w1 := (Arr_at _ _ [.int .i64 o.1, .int .i64 o.2.1, .int .i64 o.2.2.1, .int .i64 o.2.2.2.1, .int .i64 o.2.2.2.2.1, .int .i64 o.2.2.2.2.2.1, .int .i64 o.2.2.2.2.2.2] _ (by simp)).below k1
          have z1 := B0_1.lies
          clear k1
          rcases Bool.eq_false_or_eq_true r1 with hc5 | hc5
          · have Hhc5 : Hid (r1 = true) := hc5
            have c2_B0_4 : w1.cell? ⟨w.heap.size, 4, none⟩ = some (.int .i64 o.2.2.2.2.1) := B0_1.c 4 (of_decide_eq_true rfl)
            go_wp2_with fail
            refine (pAng_any o.2.2.2.2.1 _).mono ?_
            rintro e w2 ⟨rfl, k2⟩
            generalize e2 : pAngC o.2.2.2.2.1 = r2
            have E2 : Hid _ := e2
            clear e2
            have K2 : Below w.heap.size w w2 := bel_then K1 k2
            have B0_2 : Arr w.heap.size [.int .i64 o.1, .int .i64 o.2.1, .int .i64 o.2.2.1, .int .i64 o.2.2.2.1, .int .i64 o.2.2.2.2.1, .int .i64 o.2.2.2.2.2.1, .int .i64 o.2.2.2.2.2.2] w2 := B0_1.below k2
            have z2 := B0_2.lies
            clear c2_B0_4 K1 B0_1 k2
            rcases Bool.eq_false_or_eq_true r2 with hc6 | hc6
            · have Hhc6 : Hid (r2 = true) := hc6
              have c3_B0_5 : w2.cell? ⟨w.heap.size, 5, none⟩ = some (.int .i64 o.2.2.2.2.2.1) := B0_2.c 5 (of_decide_eq_true rfl)
              go_wp2_with fail
              refine (pAng_any o.2.2.2.2.2.1 _).mono ?_
              rintro e w3 ⟨rfl, k3⟩
              generalize e3 : pAngC o.2.2.2.2.2.1 = r3
              have E3 : Hid _ := e3
              clear e3
              have K3 : Below w.heap.size w w3 := bel_then K2 k3
              have B0_3 : Arr w.heap.size [.int .i64 o.1, .int .i64 o.2.1, .int .i64 o.2.2.1, .int .i64 o.2.2.2.1, .int .i64 o.2.2.2.2.1, .int .i64 o.2.2.2.2.2.1, .int .i64 o.2.2.2.2.2.2] w3 := B0_2.below k3
              have z3 := B0_3.lies
              clear c3_B0_5 K2 B0_2 k3
              rcases Bool.eq_false_or_eq_true r3 with hc7 | hc7
              · have Hhc7 : Hid (r3 = true) := hc7
                have c4_B0_6 : w3.cell? ⟨w.heap.size, 6, none⟩ = some (.int .i64 o.2.2.2.2.2.2) := B0_3.c 6 (of_decide_eq_true rfl)
                go_wp2_with fail
                refine (dRight_any o.2.2.2.2.2.2 _).mono ?_
                rintro e w4 ⟨rfl, k4⟩
                generalize e4 : cRight o.2.2.2.2.2.2 = r4
                have E4 : Hid _ := e4
                clear e4
                have K4 : Below w.heap.size w w4 := bel_then K3 k4
                have B0_4 : Arr w.heap.size [.int .i64 o.1, .int .i64 o.2.1, .int .i64 o.2.2.1, .int .i64 o.2.2.2.1, .int .i64 o.2.2.2.2.1, .int .i64 o.2.2.2.2.2.1, .int .i64 o.2.2.2.2.2.2] w4 := B0_3.below k4
                have z4 := B0_4.lies
                clear c4_B0_6 K3 B0_3 k4
                rcases Bool.eq_false_or_eq_true r4 with hc8 | hc8
                · have Hhc8 : Hid (r4 = true) := hc8
                  have y2_B0 : w.heap.size < w4.heap.size := B0_4.lies
                  have c5_B0_0 : w4.cell? ⟨w.heap.size, 0, none⟩ = some (.int .i64 o.1) := B0_4.c 0 (of_decide_eq_true rfl)
                  have c5_B0_1 : w4.cell? ⟨w.heap.size, 1, none⟩ = some (.int .i64 o.2.1) := B0_4.c 1 (of_decide_eq_true rfl)
                  have l5_B0 := B0_4.lies
                  go_wp2_with fail
                  refine (rMul_any w4.heap.size false o.1 (1099511627776 - o.2.1) _ (Fl_at _ _ _ _ (by simp))).mono ?_
                  rintro e w5 ⟨rfl, f5, k5⟩
                  generalize e5 : mulS false o.1 (1099511627776 - o.2.1) = r5 at f5 ⊢
                  have E5 : Hid _ := e5
                  clear e5
                  have K5 : Below w.heap.size w w5 := k5.on (bel_al K4 _) (by omega)
                  have B0_5 : Arr w.heap.size [.int .i64 o.1, .int .i64 o.2.1, .int .i64 o.2.2.1, .int .i64 o.2.2.2.1, .int .i64 o.2.2.2.2.1, .int .i64 o.2.2.2.2.2.1, .int .i64 o.2.2.2.2.2.2] w5 := (B0_4.alloc _).kept k5 (Nat.ne_of_lt y2_B0)
                  have z5 := f5.lies
                  clear c5_B0_0 c5_B0_1 l5_B0 K4 B0_4 k5
                  have c6_B0_0 : w5.cell? ⟨w.heap.size, 0, none⟩ = some (.int .i64 o.1) := B0_5.c 0 (of_decide_eq_true rfl)
                  have c6_B0_1 : w5.cell? ⟨w.heap.size, 1, none⟩ = some (.int .i64 o.2.1) := B0_5.c 1 (of_decide_eq_true rfl)
                  go_wp2_with fail
                  refine (rMul_any w4.heap.size r5.2 o.1 (1099511627776 + o.2.1) _ f5).mono ?_
                  rintro e w6 ⟨rfl, f6, k6⟩
                  generalize e6 : mulS r5.2 o.1 (1099511627776 + o.2.1) = r6 at f6 ⊢
                  have E6 : Hid _ := e6
                  clear e6
                  have K6 : Below w.heap.size w w6 := k6.on K5 (by omega)
                  have B0_6 : Arr w.heap.size [.int .i64 o.1, .int .i64 o.2.1, .int .i64 o.2.2.1, .int .i64 o.2.2.2.1, .int .i64 o.2.2.2.2.1, .int .i64 o.2.2.2.2.2.1, .int .i64 o.2.2.2.2.2.2] w6 := B0_5.kept k6 (Nat.ne_of_lt y2_B0)
                  have z6 := f6.lies
                  clear c6_B0_0 c6_B0_1 K5 B0_5 f5 k6
                  rcases Bool.eq_false_or_eq_true r6.2 with hc9 | hc9
                  · have Hhc9 : Hid (r6.2 = true) := hc9
                    have c7_B1 := f6.cell
                    go_wp2
                    clear c7_B1
                    go_ret
                    have hs : pRightC o = false := by unfold pRightC; simp only [E1.out, E2.out, E3.out, E4.out, E5.out, E6.out]; rw [if_neg (by have := Hhc1.out; omega)]; rw [if_neg (by have := Hhc2.out; omega)]; rw [if_neg (by have := Hhc3.out; omega)]; rw [if_neg (by have := Hhc4.out; omega)]; rw [if_pos Hhc5.out]; rw [if_pos Hhc6.out]; rw [if_pos Hhc7.out]; rw [if_pos Hhc8.out]; rw [if_pos Hhc9.out]
                    rw [hs]
                    exact ⟨rfl, K6⟩
                  · have Hhc9 : Hid (r6.2 = false) := hc9
                    by_cases hc10 : r5.1 ≥ 7232738120604
                    · have Hhc10 : Hid (r5.1 ≥ 7232738120604) := hc10
                      have c7_B1 := f6.cell
                      go_wp2
                      clear c7_B1
                      go_ret
                      have hs : pRightC o = (decide (r6.1 ≤ 9211859050600)) := by unfold pRightC; simp only [E1.out, E2.out, E3.out, E4.out, E5.out, E6.out]; rw [if_neg (by have := Hhc1.out; omega)]; rw [if_neg (by have := Hhc2.out; omega)]; rw [if_neg (by have := Hhc3.out; omega)]; rw [if_neg (by have := Hhc4.out; omega)]; rw [if_pos Hhc5.out]; rw [if_pos Hhc6.out]; rw [if_pos Hhc7.out]; rw [if_pos Hhc8.out]; rw [if_neg (by rw [Hhc9.out]; decide)]; rw [if_pos (by have := Hhc10.out; omega)]
                      rw [hs]
                      exact ⟨rfl, K6⟩
                    · have Hhc10 : Hid (¬ r5.1 ≥ 7232738120604) := hc10
                      have c7_B1 := f6.cell
                      go_wp2
                      clear c7_B1
                      go_ret
                      have hs : pRightC o = false := by unfold pRightC; simp only [E1.out, E2.out, E3.out, E4.out, E5.out, E6.out]; rw [if_neg (by have := Hhc1.out; omega)]; rw [if_neg (by have := Hhc2.out; omega)]; rw [if_neg (by have := Hhc3.out; omega)]; rw [if_neg (by have := Hhc4.out; omega)]; rw [if_pos Hhc5.out]; rw [if_pos Hhc6.out]; rw [if_pos Hhc7.out]; rw [if_pos Hhc8.out]; rw [if_neg (by rw [Hhc9.out]; decide)]; rw [if_neg (by have := Hhc10.out; omega)]
                      rw [hs]
                      exact ⟨rfl, K6⟩
                · have Hhc8 : Hid (r4 = false) := hc8
                  go_wp2
                  go_ret
                  have hs : pRightC o = false := by unfold pRightC; simp only [E1.out, E2.out, E3.out, E4.out]; rw [if_neg (by have := Hhc1.out; omega)]; rw [if_neg (by have := Hhc2.out; omega)]; rw [if_neg (by have := Hhc3.out; omega)]; rw [if_neg (by have := Hhc4.out; omega)]; rw [if_pos Hhc5.out]; rw [if_pos Hhc6.out]; rw [if_pos Hhc7.out]; rw [if_neg (by rw [Hhc8.out]; decide)]
                  rw [hs]
                  exact ⟨rfl, K4⟩
              · have Hhc7 : Hid (r3 = false) := hc7
                go_wp2
                go_ret
                have hs : pRightC o = false := by unfold pRightC; simp only [E1.out, E2.out, E3.out]; rw [if_neg (by have := Hhc1.out; omega)]; rw [if_neg (by have := Hhc2.out; omega)]; rw [if_neg (by have := Hhc3.out; omega)]; rw [if_neg (by have := Hhc4.out; omega)]; rw [if_pos Hhc5.out]; rw [if_pos Hhc6.out]; rw [if_neg (by rw [Hhc7.out]; decide)]
                rw [hs]
                exact ⟨rfl, K3⟩
            · have Hhc6 : Hid (r2 = false) := hc6
              go_wp2
              go_ret
              have hs : pRightC o = false := by unfold pRightC; simp only [E1.out, E2.out]; rw [if_neg (by have := Hhc1.out; omega)]; rw [if_neg (by have := Hhc2.out; omega)]; rw [if_neg (by have := Hhc3.out; omega)]; rw [if_neg (by have := Hhc4.out; omega)]; rw [if_pos Hhc5.out]; rw [if_neg (by rw [Hhc6.out]; decide)]
              rw [hs]
              exact ⟨rfl, K2⟩
          · have Hhc5 : Hid (r1 = false) := hc5
            go_wp2
            go_ret
            have hs : pRightC o = false := by unfold pRightC; simp only [E1.out]; rw [if_neg (by have := Hhc1.out; omega)]; rw [if_neg (by have := Hhc2.out; omega)]; rw [if_neg (by have := Hhc3.out; omega)]; rw [if_neg (by have := Hhc4.out; omega)]; rw [if_neg (by rw [Hhc5.out]; decide)]
            rw [hs]
            exact ⟨rfl, K1⟩
theorem pRight_any (o : V7) (w : World) : Calls Try.prog 12 #[.agg #[.int .i64 o.1, .int .i64 o.2.1, .int .i64 o.2.2.1, .int .i64 o.2.2.2.1, .int .i64 o.2.2.2.2.1, .int .i64 o.2.2.2.2.2.1, .int .i64 o.2.2.2.2.2.2]] w fun e w' => e = .returned (.bool (oRightC o)) ∧ Below w.heap.size w w' := by
  have h := pRightC_any o w
  rw [pRightC_eq] at h
  exact h
end Go.Proofs.Ytpceomcnknjiiaa
