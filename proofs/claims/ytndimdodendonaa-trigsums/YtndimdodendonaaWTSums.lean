/-
  The walk of the law TrigSums, for the seat Ytndimdodendonaa.
-/
import Derived.Test.YtndimdodendonaaWTOne
import Derived.Handy
import Derived.Deep.RegionHeld3
import Derived.Deep.DrawnRows
namespace Go.Proofs.Ytndimdodendonaa
open Go.RowKit
attribute [local go_sem ↓] Go.wp_at_zero Go.wp_at_succ

set_option maxRecDepth 100000 in
set_option maxHeartbeats 800000 in
theorem TrigSums_in (a b : Int) (w : World) (ha : -17592186044416 ≤ a ∧ a ≤ 17592186044416) (hb : -17592186044416 ≤ b ∧ b ≤ 17592186044416) :
    Calls Try.prog 8 #[.int .i64 a, .int .i64 b] w fun e w' => e = .returned (.bool true) ∧ Below w.heap.size w w' := by
  obtain ⟨s, c, t, d, x, y, m1, m2, m3, m4, e1, e2, e3, e4, e5, e6, e7, e8, e9, e10, e11, e12, b1, b2, b3, b4, bx, bb⟩ := sums_math a b ha hb
  have E1 : Hid _ := e1
  have E2 : Hid _ := e2
  have E3 : Hid _ := e3
  have E4 : Hid _ := e4
  have E5 : Hid _ := e5
  have E6 : Hid _ := e6
  have E7 : Hid _ := e7
  have E8 : Hid _ := e8
  have E9 : Hid _ := e9
  have E10 : Hid _ := e10
  have E11 : Hid _ := e11
  have E12 : Hid _ := e12
  have B1 : Hid _ := b1
  have B2 : Hid _ := b2
  have B3 : Hid _ := b3
  have B4 : Hid _ := b4
  obtain ⟨n1, n2⟩ := ha
  obtain ⟨n3, n4⟩ := hb
  clear e1 e2 e3 e4 e5 e6 e7 e8 e9 e10 e11 e12 bx bb b1 b2 b3 b4
  go_enter Try.func8, Try.ntmps8
  go_wp2_with fail
  refine (awake_any _).mono ?_
  rintro e w1 ⟨rfl, h1⟩
  have H1 : Hid _ := h1
  have hz := h1.size
  clear h1
  go_wp2_with fail
  refine (Sin_any w1.heap.size false a _ (Fl_new w1 false _)).mono ?_
  rintro e u2 ⟨rfl, f2, k2⟩
  rw [E1.out] at f2 ⊢
  have K2 : Hid (Below w.heap.size w u2) := k2.on (H1.out.alloc hz _) hz
  clear k2 H1
  go_wp2_with fail
  refine (Cos_any w1.heap.size false a _ f2).mono ?_
  rintro e u3 ⟨rfl, f3, k3⟩
  rw [E2.out] at f3 ⊢
  have K3 : Hid (Below w.heap.size w u3) := k3.on K2.out hz
  clear k3 f2 K2
  go_wp2_with fail
  refine (Sin_any w1.heap.size false b _ f3).mono ?_
  rintro e u4 ⟨rfl, f4, k4⟩
  rw [E3.out] at f4 ⊢
  have K4 : Hid (Below w.heap.size w u4) := k4.on K3.out hz
  clear k4 f3 K3
  go_wp2_with fail
  refine (Cos_any w1.heap.size false b _ f4).mono ?_
  rintro e u5 ⟨rfl, f5, k5⟩
  rw [E4.out] at f5 ⊢
  have K5 : Hid (Below w.heap.size w u5) := k5.on K4.out hz
  clear k5 f4 K4
  go_wp2_with fail
  refine (Sin_any w1.heap.size false (a + b) _ f5).mono ?_
  rintro e u6 ⟨rfl, f6, k6⟩
  rw [E5.out] at f6 ⊢
  have K6 : Hid (Below w.heap.size w u6) := k6.on K5.out hz
  clear k6 f5 K5
  go_wp2_with fail
  refine (Mul_any w1.heap.size false s d _ f6).mono ?_
  rintro e u7 ⟨rfl, f7, k7⟩
  rw [E7.out] at f7 ⊢
  have K7 : Hid (Below w.heap.size w u7) := k7.on K6.out hz
  clear k7 f6 K6
  go_wp2_with fail
  refine (Mul_any w1.heap.size false c t _ f7).mono ?_
  rintro e u8 ⟨rfl, f8, k8⟩
  rw [E8.out] at f8 ⊢
  have K8 : Hid (Below w.heap.size w u8) := k8.on K7.out hz
  clear k8 f7 K7
  go_wp2_with fail
  refine (Add_any w1.heap.size false m1 m2 _ f8).mono ?_
  rintro e u9 ⟨rfl, f9, k9⟩
  rw [E9.out] at f9 ⊢
  have K9 : Hid (Below w.heap.size w u9) := k9.on K8.out hz
  clear k9 f8 K8
  go_wp2_with fail
  refine (near_any _ _ _ B1.out B2.out).mono ?_
  rintro e u10 ⟨rfl, h10⟩
  have f10 := f9.below h10
  have K10 : Hid (Below w.heap.size w u10) := K9.out.trans (h10.mono K9.out.size)
  clear f9 h10 K9
  go_wp2_with fail
  refine (Cos_any w1.heap.size false (a + b) _ f10).mono ?_
  rintro e u11 ⟨rfl, f11, k11⟩
  rw [E6.out] at f11 ⊢
  have K11 : Hid (Below w.heap.size w u11) := k11.on K10.out hz
  clear k11 f10 K10
  go_wp2_with fail
  refine (Mul_any w1.heap.size false c d _ f11).mono ?_
  rintro e u12 ⟨rfl, f12, k12⟩
  rw [E10.out] at f12 ⊢
  have K12 : Hid (Below w.heap.size w u12) := k12.on K11.out hz
  clear k12 f11 K11
  go_wp2_with fail
  refine (Mul_any w1.heap.size false s t _ f12).mono ?_
  rintro e u13 ⟨rfl, f13, k13⟩
  rw [E11.out] at f13 ⊢
  have K13 : Hid (Below w.heap.size w u13) := k13.on K12.out hz
  clear k13 f12 K12
  go_wp2_with fail
  refine (Sub_any w1.heap.size false m3 m4 _ f13).mono ?_
  rintro e u14 ⟨rfl, f14, k14⟩
  rw [E12.out] at f14 ⊢
  have K14 : Hid (Below w.heap.size w u14) := k14.on K13.out hz
  clear k14 f13 K13
  go_wp2_with fail
  refine (near_any _ _ _ B3.out B4.out).mono ?_
  rintro e u15 ⟨rfl, h15⟩
  have f15 := f14.below h15
  have K15 : Hid (Below w.heap.size w u15) := K14.out.trans (h15.mono K14.out.size)
  clear f14 h15 K14
  have g := f15.cell
  clear f15
  go_wp2
  go_ret
  exact ⟨rfl, K15.out⟩

set_option maxHeartbeats 400000 in
theorem TrigSums_a (a b : Int) (w : World) (h : 17592186044416 < a) :
    Calls Try.prog 8 #[.int .i64 a, .int .i64 b] w fun e w' => e = .returned (.bool true) ∧ Below w.heap.size w w' := by
  go_enter Try.func8, Try.ntmps8
  go_wp2_with fail
  refine (awake_any _).mono ?_
  rintro e w1 ⟨rfl, h1⟩
  have H1 : Hid _ := h1
  clear h1
  go_wp2
  go_ret
  exact ⟨rfl, H1.out⟩

set_option maxHeartbeats 400000 in
theorem TrigSums_b (a b : Int) (w : World) (g1 : a ≤ 17592186044416) (h : a < -17592186044416) :
    Calls Try.prog 8 #[.int .i64 a, .int .i64 b] w fun e w' => e = .returned (.bool true) ∧ Below w.heap.size w w' := by
  go_enter Try.func8, Try.ntmps8
  go_wp2_with fail
  refine (awake_any _).mono ?_
  rintro e w1 ⟨rfl, h1⟩
  have H1 : Hid _ := h1
  clear h1
  go_wp2
  go_ret
  exact ⟨rfl, H1.out⟩

set_option maxHeartbeats 400000 in
theorem TrigSums_c (a b : Int) (w : World) (g1 : a ≤ 17592186044416) (g2 : -17592186044416 ≤ a) (h : 17592186044416 < b) :
    Calls Try.prog 8 #[.int .i64 a, .int .i64 b] w fun e w' => e = .returned (.bool true) ∧ Below w.heap.size w w' := by
  go_enter Try.func8, Try.ntmps8
  go_wp2_with fail
  refine (awake_any _).mono ?_
  rintro e w1 ⟨rfl, h1⟩
  have H1 : Hid _ := h1
  clear h1
  go_wp2
  go_ret
  exact ⟨rfl, H1.out⟩

set_option maxHeartbeats 400000 in
theorem TrigSums_d (a b : Int) (w : World) (g1 : a ≤ 17592186044416) (g2 : -17592186044416 ≤ a) (g3 : b ≤ 17592186044416) (h : b < -17592186044416) :
    Calls Try.prog 8 #[.int .i64 a, .int .i64 b] w fun e w' => e = .returned (.bool true) ∧ Below w.heap.size w w' := by
  go_enter Try.func8, Try.ntmps8
  go_wp2_with fail
  refine (awake_any _).mono ?_
  rintro e w1 ⟨rfl, h1⟩
  have H1 : Hid _ := h1
  clear h1
  go_wp2
  go_ret
  exact ⟨rfl, H1.out⟩

theorem TrigSums_any (a b : Int) (w : World) :
    Calls Try.prog 8 #[.int .i64 a, .int .i64 b] w fun e w' => e = .returned (.bool true) ∧ Below w.heap.size w w' := by
  by_cases h1 : 17592186044416 < a
  · exact TrigSums_a a b w h1
  · by_cases h2 : a < -17592186044416
    · exact TrigSums_b a b w (by omega) h2
    · by_cases h3 : 17592186044416 < b
      · exact TrigSums_c a b w (by omega) (by omega) h3
      · by_cases h4 : b < -17592186044416
        · exact TrigSums_d a b w (by omega) (by omega) (by omega) h4
        · exact TrigSums_in a b w (by omega) (by omega)
end Go.Proofs.Ytndimdodendonaa
