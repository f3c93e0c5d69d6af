/-
  The walk of the law SunOne, for the seat Ytnfaafdoefpomaa. (Made by mksun.py.)
-/
import Derived.Test.YtnfaafdoefpomaaSAwake
import Derived.Handy
import Derived.Deep.RegionHeld3
namespace Go.Proofs.Ytnfaafdoefpomaa
open Go.RowKit

set_option maxRecDepth 100000 in
set_option maxHeartbeats 4000000 in
theorem SunOne_a (t : Int) (w : World) (c1 : t < 0) :
    Calls Try.prog 5 #[.int .i64 t] w fun e w' => e = .returned (.bool true) ∧ Below w.heap.size w w' := by
  go_enter Try.func5, Try.ntmps5
  go_wp2_with fail
  refine (awake_any  _).mono ?_
  rintro e w1 ⟨rfl, k1⟩
  have K1 : Below w.heap.size w w1 := bel_then (Below.refl w.heap.size w) k1
  have z1 := K1.size
  clear k1
  go_wp2
  go_ret
  exact ⟨rfl, K1⟩
set_option maxRecDepth 100000 in
set_option maxHeartbeats 4000000 in
theorem SunOne_b (t : Int) (w : World) (c1 : ¬ t < 0) (c2 : t > 157766400000) :
    Calls Try.prog 5 #[.int .i64 t] w fun e w' => e = .returned (.bool true) ∧ Below w.heap.size w w' := by
  go_enter Try.func5, Try.ntmps5
  go_wp2_with fail
  refine (awake_any  _).mono ?_
  rintro e w1 ⟨rfl, k1⟩
  have K1 : Below w.heap.size w w1 := bel_then (Below.refl w.heap.size w) k1
  have z1 := K1.size
  clear k1
  go_wp2
  go_ret
  exact ⟨rfl, K1⟩
set_option maxRecDepth 100000 in
set_option maxHeartbeats 4000000 in
theorem SunOne_in (t : Int) (w : World) (c1 : ¬ t < 0) (c2 : ¬ t > 157766400000) (x y z n : Int) (hd : dirS false t = ((x, y, z), false)) (hn : vNormS false (x, y, z) = (n, false)) (n0 : 0 ≤ n) (n1 : n - 1099511627776 ≤ 64) (n2 : n - 1099511627776 ≥ -64) :
    Calls Try.prog 5 #[.int .i64 t] w fun e w' => e = .returned (.bool true) ∧ Below w.heap.size w w' := by
  go_enter Try.func5, Try.ntmps5
  go_wp2_with fail
  refine (awake_any  _).mono ?_
  rintro e w1 ⟨rfl, k1⟩
  have K1 : Below w.heap.size w w1 := bel_then (Below.refl w.heap.size w) k1
  have z1 := K1.size
  clear k1
  have y1_low : w.heap.size ≤ w1.heap.size := K1.size
  go_wp2_with fail
  refine (sDir_any w1.heap.size false t _ (Fl_at _ _ _ _ (by simp))).mono ?_
  rintro e w2 ⟨rfl, f2, k2⟩
  rw [hd] at f2 ⊢
  dsimp only at f2 ⊢
  have K2 : Below w.heap.size w w2 := k2.on (bel_al K1 _) (by omega)
  have z2 := f2.lies
  clear K1 k2
  go_wp2_with fail
  refine (vNorm_any w1.heap.size false (x, y, z) _ f2).mono ?_
  rintro e w3 ⟨rfl, f3, k3⟩
  rw [hn] at f3 ⊢
  dsimp only at f3 ⊢
  have K3 : Below w.heap.size w w3 := k3.on K2 (by omega)
  have z3 := f3.lies
  clear K2 f2 k3
  have c4_B0 := f3.cell
  go_wp2
  clear c4_B0
  go_ret
  exact ⟨rfl, K3⟩
theorem SunOne_any (t : Int) (w : World) :
    Calls Try.prog 5 #[.int .i64 t] w fun e w' => e = .returned (.bool true) ∧ Below w.heap.size w w' := by
  by_cases c1 : t < 0
  · exact SunOne_a t w c1
  by_cases c2 : t > 157766400000
  · exact SunOne_b t w c1 c2
  obtain ⟨L⟩ := dir_at (t := t) (by omega) (by omega)
  obtain ⟨n, hn, n0, n1, n2⟩ := L.Q.one
  exact SunOne_in t w c1 c2 _ _ _ n L.e (by unfold vNormS; simp only [hn]) n0 n2 n1
end Go.Proofs.Ytnfaafdoefpomaa
