/-
  The walk of the law TrigOne, for the seat Ytndimdodendonaa.
-/
import Derived.Test.YtndimdodendonaaLaws2
import Derived.Test.YtndimdodendonaaTSumM
import Derived.Handy
import Derived.Deep.RegionHeld3
import Derived.Deep.DrawnRows
namespace Go.Proofs.Ytndimdodendonaa
open Go.RowKit
attribute [local go_sem ↓] Go.wp_at_zero Go.wp_at_succ

set_option maxHeartbeats 400000 in
theorem near_any (x y : Int) (w : World) (h1 : x - y ≤ 256) (h2 : y - x ≤ 256) :
    Calls Try.prog 20 #[.int .i64 x, .int .i64 y] w fun e w' => e = .returned (.bool true) ∧ Below w.heap.size w w' := by
  go_enter Try.func20, Try.ntmps20
  go_wp2
  go_ret
  exact ⟨rfl, by go_grown⟩

set_option maxHeartbeats 400000 in
theorem TrigOne_any (a : Int) (w : World) :
    Calls Try.prog 7 #[.int .i64 a] w fun e w' => e = .returned (.bool true) ∧ Below w.heap.size w w' := by
  by_cases hn : -4611686018427387904 ≤ a ∧ a ≤ 4611686018427387904
  · obtain ⟨s, c, m1, m2, e1, e2, e3, e4, e5, b1, b2, b3⟩ := one_math a (numB_of hn)
    have E1 : Hid _ := e1
    have E2 : Hid _ := e2
    have E3 : Hid _ := e3
    have E4 : Hid _ := e4
    have E5 : Hid _ := e5
    obtain ⟨n1, n2⟩ := hn
    clear e1 e2 e3 e4 e5
    go_enter Try.func7, Try.ntmps7
    go_wp2_with fail
    refine (awake_any _).mono ?_
    rintro e w1 ⟨rfl, h1⟩
    have H1 : Hid _ := h1
    have hz := h1.size
    clear h1
    go_wp2_with fail
    refine (Sin_any w1.heap.size false a _ (Fl_new w1 false _)).mono ?_
    rintro e u2 ⟨rfl, f2, k2⟩
    rw [E1.out] at f2 ⊢
    have K2 : Hid (Below w.heap.size w u2) := k2.on (H1.out.alloc hz _) hz
    clear k2
    go_wp2_with fail
    refine (Cos_any w1.heap.size false a _ f2).mono ?_
    rintro e u3 ⟨rfl, f3, k3⟩
    rw [E2.out] at f3 ⊢
    have K3 : Hid (Below w.heap.size w u3) := k3.on K2.out hz
    clear k3
    clear f2 K2 H1
    go_wp2_with fail
    refine (Mul_any w1.heap.size false s s _ f3).mono ?_
    rintro e u4 ⟨rfl, f4, k4⟩
    rw [E3.out] at f4 ⊢
    have K4 : Hid (Below w.heap.size w u4) := k4.on K3.out hz
    clear k4
    clear f3 K3
    go_wp2_with fail
    refine (Mul_any w1.heap.size false c c _ f4).mono ?_
    rintro e u5 ⟨rfl, f5, k5⟩
    rw [E4.out] at f5 ⊢
    have K5 : Hid (Below w.heap.size w u5) := k5.on K4.out hz
    clear k5
    clear f4 K4
    go_wp2_with fail
    refine (Add_any w1.heap.size false m1 m2 _ f5).mono ?_
    rintro e u6 ⟨rfl, f6, k6⟩
    rw [E5.out] at f6 ⊢
    have K6 : Hid (Below w.heap.size w u6) := k6.on K5.out hz
    clear k6
    clear f5 K5
    go_wp2_with fail
    refine (near_any _ _ _ b1 b2).mono ?_
    rintro e u7 ⟨rfl, h7⟩
    have g7 := (f6.below h7).cell
    have K7 : Hid (Below w.heap.size w u7) := K6.out.trans (h7.mono K6.out.size)
    clear f6 h7 K6
    go_wp2
    go_ret
    exact ⟨rfl, K7.out⟩
  · by_cases c : 4611686018427387904 < a
    · clear hn
      go_enter Try.func7, Try.ntmps7
      go_wp2_with fail
      refine (awake_any _).mono ?_
      rintro e w1 ⟨rfl, h1⟩
      have H1 : Hid _ := h1
      clear h1
      go_wp2
      go_ret
      exact ⟨rfl, H1.out⟩
    · have c2 : a < -4611686018427387904 := by omega
      clear hn
      go_enter Try.func7, Try.ntmps7
      go_wp2_with fail
      refine (awake_any _).mono ?_
      rintro e w1 ⟨rfl, h1⟩
      have H1 : Hid _ := h1
      clear h1
      go_wp2
      go_ret
      exact ⟨rfl, H1.out⟩
end Go.Proofs.Ytndimdodendonaa
