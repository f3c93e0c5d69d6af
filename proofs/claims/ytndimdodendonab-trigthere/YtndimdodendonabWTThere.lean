/-
  The walk of the law TrigThere, for the seat Ytndimdodendonab.
-/
import Derived.Test.YtndimdodendonabLaws2
import Derived.Test.YtndimdodendonabMNorm
import Derived.Test.YtndimdodendonabTAtan
import Derived.Test.YtndimdodendonabTThC
import Derived.Handy
import Derived.Deep.RegionHeld3
import Derived.Deep.DrawnRows
namespace Go.Proofs.Ytndimdodendonab
open Go.RowKit
attribute [local go_sem ↓] Go.wp_at_zero Go.wp_at_succ

theorem norm_cases (y x : Int) : normS false y x 0 = (0, true) ∨ ∃ n, normS false y x 0 = (n, false) ∧ numB y = true ∧ numB x = true ∧ 0 ≤ n ∧ n ≤ 4611686018427387904 ∧ n * n ≤ y * y + x * x ∧ y * y + x * x < (n + 1) * (n + 1) := by
  cases c : tk false [y, x, 0]
  · exact Or.inl (normS_no c)
  · have h := tk_three c
    have e := normS_yes c
    have b1 := sq_bd h.2.1
    have b2 := sq_bd h.2.2.1
    rw [show y * y + x * x + 0 * 0 = y * y + x * x by omega] at e
    have s := isq_spec (y * y + x * x) (by omega) (by omega)
    cases b : (out (isq (y * y + x * x)) false).2
    · have g := out_good _ _ b
      refine Or.inr ⟨isq (y * y + x * x), ?_, h.2.1, h.2.2.1, s.1, g.1, s.2.1, s.2.2⟩
      rw [e]
      exact Prod.ext (by rw [g.2]; simp) b
    · refine Or.inl ?_
      rw [e]
      exact Prod.ext (out_bad _ _ b) b

set_option maxHeartbeats 400000 in
theorem TrigThere_any (y x : Int) (w : World) :
    Calls Try.prog 3 #[.int .i64 y, .int .i64 x] w fun e w' => e = .returned (.bool true) ∧ Below w.heap.size w w' := by
  rcases norm_cases y x with e0 | ⟨n, e0, hy, hx, n0, nm, n1, n2⟩
  · have E0 : Hid _ := e0
    clear e0
    go_enter Try.func3, Try.ntmps3
    go_wp2_with fail
    refine (awake_any _).mono ?_
    rintro e w1 ⟨rfl, h1⟩
    have H1 : Hid _ := h1
    have hz := h1.size
    clear h1
    go_wp2_with fail
    refine (Norm_any w1.heap.size false y x 0 _ (Fl_new w1 false _)).mono ?_
    rintro e u2 ⟨rfl, f2, k2⟩
    rw [E0.out] at f2 ⊢
    have K2 : Hid (Below w.heap.size w u2) := k2.on (H1.out.alloc hz _) hz
    have g2 := f2.cell
    clear k2 f2 H1
    go_wp2
    go_ret
    exact ⟨rfl, K2.out⟩
  · have E0 : Hid _ := e0
    clear e0
    by_cases c1 : n < 1099511627776
    · clear hy hx n1 n2
      go_enter Try.func3, Try.ntmps3
      go_wp2_with fail
      refine (awake_any _).mono ?_
      rintro e w1 ⟨rfl, h1⟩
      have H1 : Hid _ := h1
      have hz := h1.size
      clear h1
      go_wp2_with fail
      refine (Norm_any w1.heap.size false y x 0 _ (Fl_new w1 false _)).mono ?_
      rintro e u2 ⟨rfl, f2, k2⟩
      rw [E0.out] at f2 ⊢
      have K2 : Hid (Below w.heap.size w u2) := k2.on (H1.out.alloc hz _) hz
      have g2 := f2.cell
      clear k2 f2 H1
      go_wp2
      go_ret
      exact ⟨rfl, K2.out⟩
    · by_cases c2 : 1099511627776000 < n
      · clear hy hx n1 n2
        go_enter Try.func3, Try.ntmps3
        go_wp2_with fail
        refine (awake_any _).mono ?_
        rintro e w1 ⟨rfl, h1⟩
        have H1 : Hid _ := h1
        have hz := h1.size
        clear h1
        go_wp2_with fail
        refine (Norm_any w1.heap.size false y x 0 _ (Fl_new w1 false _)).mono ?_
        rintro e u2 ⟨rfl, f2, k2⟩
        rw [E0.out] at f2 ⊢
        have K2 : Hid (Below w.heap.size w u2) := k2.on (H1.out.alloc hz _) hz
        have g2 := f2.cell
        clear k2 f2 H1
        go_wp2
        go_ret
        exact ⟨rfl, K2.out⟩
      · obtain ⟨a, s, c, dy, dx, e1, e2, e3, e4, e5, bs, bc, u, v⟩ := there_math y x n hy hx n1 n2 ⟨by omega, by omega⟩
        have E1 : Hid _ := e1
        have E2 : Hid _ := e2
        have E3 : Hid _ := e3
        have E4 : Hid _ := e4
        have E5 : Hid _ := e5
        have by1 := numB_bd hy
        have bx1 := numB_bd hx
        have BY : Hid (-9223372036854775808 ≤ y ∧ y ≤ 9223372036854775807) := ⟨by omega, by omega⟩
        have BX : Hid (-9223372036854775808 ≤ x ∧ x ≤ 9223372036854775807) := ⟨by omega, by omega⟩
        obtain ⟨u1, u2⟩ := u
        obtain ⟨v1, v2⟩ := v
        clear e1 e2 e3 e4 e5 hy hx n1 n2 by1 bx1
        go_enter Try.func3, Try.ntmps3
        go_wp2_with fail
        refine (awake_any _).mono ?_
        rintro e w1 ⟨rfl, h1⟩
        have H1 : Hid _ := h1
        have hz := h1.size
        clear h1
        go_wp2_with fail
        refine (Norm_any w1.heap.size false y x 0 _ (Fl_new w1 false _)).mono ?_
        rintro e p2 ⟨rfl, f2, k2⟩
        rw [E0.out] at f2 ⊢
        have K2 : Hid (Below w.heap.size w p2) := k2.on (H1.out.alloc hz _) hz
        have g2 := f2.cell
        clear k2 H1
        go_wp2_with fail
        refine (Atan2_any w1.heap.size false y x _ BY.out BX.out f2).mono ?_
        rintro e p3 ⟨rfl, f3, k3⟩
        rw [E1.out] at f3 ⊢
        have K3 : Hid (Below w.heap.size w p3) := k3.on K2.out hz
        clear k3 f2 g2 K2
        go_wp2_with fail
        refine (Sin_any w1.heap.size false a _ f3).mono ?_
        rintro e p4 ⟨rfl, f4, k4⟩
        rw [E2.out] at f4 ⊢
        have K4 : Hid (Below w.heap.size w p4) := k4.on K3.out hz
        clear k4 f3 K3
        go_wp2_with fail
        refine (Cos_any w1.heap.size false a _ f4).mono ?_
        rintro e p5 ⟨rfl, f5, k5⟩
        rw [E3.out] at f5 ⊢
        have K5 : Hid (Below w.heap.size w p5) := k5.on K4.out hz
        clear k5 f4 K4
        go_wp2_with fail
        refine (Div_any w1.heap.size false y n _ f5).mono ?_
        rintro e p6 ⟨rfl, f6, k6⟩
        rw [E4.out] at f6 ⊢
        have K6 : Hid (Below w.heap.size w p6) := k6.on K5.out hz
        clear k6 f5 K5
        go_wp2_with fail
        refine (Div_any w1.heap.size false x n _ f6).mono ?_
        rintro e p7 ⟨rfl, f7, k7⟩
        rw [E5.out] at f7 ⊢
        have K7 : Hid (Below w.heap.size w p7) := k7.on K6.out hz
        have g7 := f7.cell
        clear k7 f6 K6 f7
        go_wp2
        go_ret
        exact ⟨rfl, K7.out⟩
end Go.Proofs.Ytndimdodendonab
