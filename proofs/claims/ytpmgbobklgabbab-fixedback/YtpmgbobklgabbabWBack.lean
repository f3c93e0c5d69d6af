/-
  The walk of the law FixedBack, for the seat Ytpmgbobklgabbab.
-/
import Derived.Test.YtpmgbobklgabbabLaws
import Derived.Handy
namespace Go.Proofs.Ytpmgbobklgabbab
open Go.RowKit

set_option maxHeartbeats 1000000 in
theorem FixedBack_far (a b : Int) (w : World) (h : 1125899906842624 < a ∨ a < -1125899906842624 ∨ 1125899906842624 < b ∨ b < -1125899906842624 ∨ b = 0) :
    Calls Try.prog 4 #[.int .i64 a, .int .i64 b] w fun e w' => e = .returned (.bool true) ∧ Below w.heap.size w w' := by
  by_cases c1 : 1125899906842624 < a
  · clear h
    go_enter Try.func4, Try.ntmps4
    go_wp2_with fail
    refine (awake_any _).mono ?_
    rintro e w1 ⟨rfl, h1⟩
    go_wp2
    go_ret
    exact ⟨rfl, h1⟩
  · by_cases c2 : a < -1125899906842624
    · clear h
      go_enter Try.func4, Try.ntmps4
      go_wp2_with fail
      refine (awake_any _).mono ?_
      rintro e w1 ⟨rfl, h1⟩
      go_wp2
      go_ret
      exact ⟨rfl, h1⟩
    · by_cases c3 : 1125899906842624 < b
      · clear h
        go_enter Try.func4, Try.ntmps4
        go_wp2_with fail
        refine (awake_any _).mono ?_
        rintro e w1 ⟨rfl, h1⟩
        go_wp2
        go_ret
        exact ⟨rfl, h1⟩
      · by_cases c4 : b < -1125899906842624
        · clear h
          go_enter Try.func4, Try.ntmps4
          go_wp2_with fail
          refine (awake_any _).mono ?_
          rintro e w1 ⟨rfl, h1⟩
          go_wp2
          go_ret
          exact ⟨rfl, h1⟩
        · obtain rfl : b = 0 := by omega
          clear h c3 c4
          go_enter Try.func4, Try.ntmps4
          go_wp2_with fail
          refine (awake_any _).mono ?_
          rintro e w1 ⟨rfl, h1⟩
          go_wp2
          go_ret
          exact ⟨rfl, h1⟩

set_option maxHeartbeats 1000000 in
theorem FixedBack_near (a b : Int) (w : World) (ha : -1125899906842624 ≤ a ∧ a ≤ 1125899906842624) (hb : -1125899906842624 ≤ b ∧ b ≤ 1125899906842624) (b0 : b ≠ 0) :
    Calls Try.prog 4 #[.int .i64 a, .int .i64 b] w fun e w' => e = .returned (.bool true) ∧ Below w.heap.size w w' := by
  have b1 : (b == 0) = false := by simpa using b0
  have HN : Hid _ := back_near a b ha hb b0
  have HD : Hid _ := partS_bad false a 1099511627776 b
  have HM : Hid _ := partS_bad false (divS false a b).1 b 1099511627776
  clear b0
  go_enter Try.func4, Try.ntmps4
  go_wp2_with fail
  refine (awake_any _).mono ?_
  rintro e w1 ⟨rfl, h1⟩
  have H1 : Hid _ := h1
  have hz := h1.size
  clear h1
  go_wp2_with fail
  refine (Div_any w1.heap.size false a b _ (Fl_new w1 false 25)).mono ?_
  rintro e w2 ⟨rfl, f2, k2⟩
  have H2 : Hid (Below w.heap.size w w2) := k2.on (H1.out.alloc hz _) hz
  clear H1 k2
  cases c : (divS false a b).2
  · have HC : Hid _ := c
    rw [c] at f2
    have fc := f2.cell
    have F2 : Hid _ := f2
    clear c f2
    go_wp2_with fail
    refine (Mul_any w1.heap.size false _ _ _ F2.out).mono ?_
    rintro e w3 ⟨rfl, f3, k3⟩
    have H3 : Hid (Below w.heap.size w w3) := k3.on H2.out hz
    clear H2 k3 fc F2
    cases d : (mulS false (divS false a b).1 b).2
    · have HF : Hid _ := HN.out HC.out d
      rw [d] at f3
      have fc := f3.cell
      have hs : sz b = if b < 0 then -b else b := rfl
      have HS : Hid _ := hs
      clear d f3 hs
      generalize (mulS false (divS false a b).1 b).1 = m at *
      have m1 := HF.out.1
      have m2 := HF.out.2.1
      have tb := back_tdiv b hb
      have HT : Hid _ := neg_tdiv_eq b
      go_wp2
      all_goals
        go_ret
        refine ⟨ret_bool ?_, H3.out⟩
        have hf := HF.out
        rw [HS.out] at hf
        simp only [decide_eq_true_eq]
        first | (rw [if_pos (by omega)] at hf; have ht := HT.out (by omega); omega) | (rw [if_neg (by omega)] at hf; have ht := Int.tdiv_eq_ediv_of_nonneg (b := 2199023255552) (show 0 ≤ b by omega); omega)
    · rw [d] at f3
      have fc := f3.cell
      have hm : (mulS false (divS false a b).1 b).1 = 0 := HM.out d
      rw [hm]
      clear d f3 hm
      go_wp2
      go_ret
      exact ⟨rfl, H3.out⟩
  · rw [c] at f2
    have fc := f2.cell
    have hq : (divS false a b).1 = 0 := HD.out c
    rw [hq]
    clear c f2 hq
    go_wp2
    go_ret
    exact ⟨rfl, H2.out⟩

theorem FixedBack_any (a b : Int) (w : World) :
    Calls Try.prog 4 #[.int .i64 a, .int .i64 b] w fun e w' => e = .returned (.bool true) ∧ Below w.heap.size w w' := by
  by_cases h : 1125899906842624 < a ∨ a < -1125899906842624 ∨ 1125899906842624 < b ∨ b < -1125899906842624 ∨ b = 0
  · exact FixedBack_far a b w h
  · exact FixedBack_near a b w (by omega) (by omega) (by omega)
end Go.Proofs.Ytpmgbobklgabbab
