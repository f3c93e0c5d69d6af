/-
  The walk of the law OrbitSolves, for the seat Ytmjkmbhaemencaa. (Made by mkorbit.py.)
-/
import Derived.Test.YtmjkmbhaemencaaOAwake
import Derived.Handy
import Derived.Deep.RegionHeld3
namespace Go.Proofs.Ytmjkmbhaemencaa
open Go.RowKit

set_option maxRecDepth 100000 in
set_option maxHeartbeats 4000000 in
theorem OrbitSolves_a (m : Int) (k : Int) (w : World) (c1 : m < 0) :
    Calls Try.prog 6 #[.int .i64 m, .int .i64 k] w fun e w' => e = .returned (.bool true) ∧ Below w.heap.size w w' := by
  go_enter Try.func6, Try.ntmps6
  go_wp2_with fail
  refine (awake_any  _).mono ?_
  rintro e w1 ⟨rfl, k1⟩
  have K1 : Below w.heap.size w w1 := bel_then (Below.refl w.heap.size w) k1
  have z1 := K1.size
  clear k1
  go_wp2
  go_ret
  exact ⟨rfl, K1⟩
set_option maxRecDepth 100000 in
set_option maxHeartbeats 4000000 in
theorem OrbitSolves_b (m : Int) (k : Int) (w : World) (c1 : ¬ m < 0) (c2 : m > 6908435304716) :
    Calls Try.prog 6 #[.int .i64 m, .int .i64 k] w fun e w' => e = .returned (.bool true) ∧ Below w.heap.size w w' := by
  go_enter Try.func6, Try.ntmps6
  go_wp2_with fail
  refine (awake_any  _).mono ?_
  rintro e w1 ⟨rfl, k1⟩
  have K1 : Below w.heap.size w w1 := bel_then (Below.refl w.heap.size w) k1
  have z1 := K1.size
  clear k1
  go_wp2
  go_ret
  exact ⟨rfl, K1⟩
set_option maxRecDepth 100000 in
set_option maxHeartbeats 4000000 in
theorem OrbitSolves_c (m : Int) (k : Int) (w : World) (c1 : ¬ m < 0) (c2 : ¬ m > 6908435304716) (c3 : k < 0) :
    Calls Try.prog 6 #[.int .i64 m, .int .i64 k] w fun e w' => e = .returned (.bool true) ∧ Below w.heap.size w w' := by
  go_enter Try.func6, Try.ntmps6
  go_wp2_with fail
  refine (awake_any  _).mono ?_
  rintro e w1 ⟨rfl, k1⟩
  have K1 : Below w.heap.size w w1 := bel_then (Below.refl w.heap.size w) k1
  have z1 := K1.size
  clear k1
  go_wp2
  go_ret
  exact ⟨rfl, K1⟩
set_option maxRecDepth 100000 in
set_option maxHeartbeats 4000000 in
theorem OrbitSolves_d (m : Int) (k : Int) (w : World) (c1 : ¬ m < 0) (c2 : ¬ m > 6908435304716) (c3 : ¬ k < 0) (c4 : k > 109951162777) :
    Calls Try.prog 6 #[.int .i64 m, .int .i64 k] w fun e w' => e = .returned (.bool true) ∧ Below w.heap.size w w' := by
  go_enter Try.func6, Try.ntmps6
  go_wp2_with fail
  refine (awake_any  _).mono ?_
  rintro e w1 ⟨rfl, k1⟩
  have K1 : Below w.heap.size w w1 := bel_then (Below.refl w.heap.size w) k1
  have z1 := K1.size
  clear k1
  go_wp2
  go_ret
  exact ⟨rfl, K1⟩
set_option maxRecDepth 100000 in
set_option maxHeartbeats 4000000 in
theorem OrbitSolves_in (m : Int) (k : Int) (w : World) (c1 : ¬ m < 0) (c2 : ¬ m > 6908435304716) (c3 : ¬ k < 0) (c4 : ¬ k > 109951162777) (x s p g : Int) (hx : oKepC false m k = (x, false)) (R : Res m k x s p g) (g1 : g ≤ 64) (g2 : g ≥ -64) :
    Calls Try.prog 6 #[.int .i64 m, .int .i64 k] w fun e w' => e = .returned (.bool true) ∧ Below w.heap.size w w' := by
  go_enter Try.func6, Try.ntmps6
  go_wp2_with fail
  refine (awake_any  _).mono ?_
  rintro e w1 ⟨rfl, k1⟩
  have K1 : Below w.heap.size w w1 := bel_then (Below.refl w.heap.size w) k1
  have z1 := K1.size
  clear k1
  have y1_low : w.heap.size ≤ w1.heap.size := K1.size
  go_wp2_with fail
  refine (oKepC_any w1.heap.size false m k _ (Fl_at _ _ _ _ (by simp))).mono ?_
  rintro e w2 ⟨rfl, f2, k2⟩
  rw [hx] at f2 ⊢
  dsimp only at f2 ⊢
  have K2 : Below w.heap.size w w2 := k2.on (bel_al K1 _) (by omega)
  have z2 := f2.lies
  clear K1 k2
  go_wp2_with fail
  refine (Sin_any w1.heap.size false x _ f2).mono ?_
  rintro e w3 ⟨rfl, f3, k3⟩
  rw [R.sn] at f3 ⊢
  dsimp only at f3 ⊢
  have K3 : Below w.heap.size w w3 := k3.on K2 (by omega)
  have z3 := f3.lies
  clear K2 f2 k3
  go_wp2_with fail
  refine (Mul_any w1.heap.size false k s _ f3).mono ?_
  rintro e w4 ⟨rfl, f4, k4⟩
  rw [R.mu] at f4 ⊢
  dsimp only at f4 ⊢
  have K4 : Below w.heap.size w w4 := k4.on K3 (by omega)
  have z4 := f4.lies
  clear K3 f3 k4
  go_wp2_with fail
  refine (Sub_any w1.heap.size false x p _ f4).mono ?_
  rintro e w5 ⟨rfl, f5, k5⟩
  rw [R.s1] at f5 ⊢
  dsimp only at f5 ⊢
  have K5 : Below w.heap.size w w5 := k5.on K4 (by omega)
  have z5 := f5.lies
  clear K4 f4 k5
  go_wp2_with fail
  refine (Sub_any w1.heap.size false (x - p) m _ f5).mono ?_
  rintro e w6 ⟨rfl, f6, k6⟩
  rw [R.s2] at f6 ⊢
  dsimp only at f6 ⊢
  have K6 : Below w.heap.size w w6 := k6.on K5 (by omega)
  have z6 := f6.lies
  clear K5 f5 k6
  have c7_B0 := f6.cell
  go_wp2
  clear c7_B0
  go_ret
  exact ⟨rfl, K6⟩
theorem OrbitSolves_any (m k : Int) (w : World) :
    Calls Try.prog 6 #[.int .i64 m, .int .i64 k] w fun e w' => e = .returned (.bool true) ∧ Below w.heap.size w w' := by
  by_cases c1 : m < 0
  · exact OrbitSolves_a m k w c1
  by_cases c2 : m > 6908435304716
  · exact OrbitSolves_b m k w c1 c2
  by_cases c3 : k < 0
  · exact OrbitSolves_c m k w c1 c2 c3
  by_cases c4 : k > 109951162777
  · exact OrbitSolves_d m k w c1 c2 c3 c4
  obtain ⟨x, s, p, g, X, R, gb⟩ := kepler_math (m := m) (e := k) ⟨by omega, by omega, by omega, by omega⟩
  exact OrbitSolves_in m k w c1 c2 c3 c4 x s p g (six_kep (by omega) (by omega) X) R (by have := gb.hi; omega) (by have := gb.lo; omega)
end Go.Proofs.Ytmjkmbhaemencaa
