/-
  The walk of the law ClockDaily, for the seat Ytidlbkljnlfkpaa. (Made by mkclock.py.)
-/
import Derived.Test.YtidlbkljnlfkpaaCAwake
import Derived.Test.YtidlbkljnlfkpaaCCTurn
import Derived.Handy
import Derived.Deep.RegionHeld3
namespace Go.Proofs.Ytidlbkljnlfkpaa
open Go.RowKit

set_option maxRecDepth 100000 in
set_option maxHeartbeats 4000000 in
theorem ClockDaily_neg (t : Int) (w : World) (h : t < 0) :
    Calls Try.prog 5 #[.int .i64 t] w fun e w' => e = .returned (.bool true) ∧ Below w.heap.size w w' := by
  go_enter Try.func5, Try.ntmps5
  go_wp2_with fail
  refine (awake_any  _).mono ?_
  rintro e w1 ⟨rfl, k1⟩
  have K1 : Below w.heap.size w w1 := bel_then (Below.refl w.heap.size w) k1
  have z1 := K1.size
  clear k1
  go_wp2
  go_ret
  exact ⟨rfl, K1⟩
set_option maxRecDepth 100000 in
set_option maxHeartbeats 4000000 in
theorem ClockDaily_far (t : Int) (w : World) (h0 : 0 ≤ t) (h : t > 157680000000) :
    Calls Try.prog 5 #[.int .i64 t] w fun e w' => e = .returned (.bool true) ∧ Below w.heap.size w w' := by
  go_enter Try.func5, Try.ntmps5
  go_wp2_with fail
  refine (awake_any  _).mono ?_
  rintro e w1 ⟨rfl, k1⟩
  have K1 : Below w.heap.size w w1 := bel_then (Below.refl w.heap.size w) k1
  have z1 := K1.size
  clear k1
  go_wp2
  go_ret
  exact ⟨rfl, K1⟩
set_option maxRecDepth 100000 in
set_option maxHeartbeats 4000000 in
theorem ClockDaily_in (t : Int) (w : World) (h0 : 0 ≤ t) (h1 : t ≤ 157680000000) (A B : Int) (hA : cTurnS false t = (A, false)) (hB : cTurnS false (t + 86400000) = (B, false)) (a0 : 0 ≤ A) (a1 : A < 6908435304716) (b0 : 0 ≤ B) (b1 : B < 6908435304716) (hm : modS false (B - A) 6908435304716 = (18914669620, false)) :
    Calls Try.prog 5 #[.int .i64 t] w fun e w' => e = .returned (.bool true) ∧ Below w.heap.size w w' := by
  go_enter Try.func5, Try.ntmps5
  go_wp2_with fail
  refine (awake_any  _).mono ?_
  rintro e w1 ⟨rfl, k1⟩
  have K1 : Below w.heap.size w w1 := bel_then (Below.refl w.heap.size w) k1
  have z1 := K1.size
  clear k1
  have y1_low : w.heap.size ≤ w1.heap.size := K1.size
  go_wp2_with fail
  refine (cTurn_any w1.heap.size false t _ (Fl_at _ _ _ _ (by simp))).mono ?_
  rintro e w2 ⟨rfl, f2, k2⟩
  rw [hA] at f2 ⊢
  dsimp only at f2 ⊢
  have K2 : Below w.heap.size w w2 := k2.on (bel_al K1 _) (by omega)
  have z2 := f2.lies
  clear K1 k2
  go_wp2_with fail
  refine (cTurn_any w1.heap.size false (t + 86400000) _ f2).mono ?_
  rintro e w3 ⟨rfl, f3, k3⟩
  rw [hB] at f3 ⊢
  dsimp only at f3 ⊢
  have K3 : Below w.heap.size w w3 := k3.on K2 (by omega)
  have z3 := f3.lies
  clear K2 f2 k3
  go_wp2_with fail
  refine (Mod_any w1.heap.size false (B - A) 6908435304716 _ f3).mono ?_
  rintro e w4 ⟨rfl, f4, k4⟩
  rw [hm] at f4 ⊢
  dsimp only at f4 ⊢
  have K4 : Below w.heap.size w w4 := k4.on K3 (by omega)
  have z4 := f4.lies
  clear K3 f3 k4
  have c5_B0 := f4.cell
  go_wp2
  clear c5_B0
  go_ret
  exact ⟨rfl, K4⟩
theorem ClockDaily_any (t : Int) (w : World) :
    Calls Try.prog 5 #[.int .i64 t] w fun e w' => e = .returned (.bool true) ∧ Below w.heap.size w w' := by
  by_cases c : t < 0
  · exact ClockDaily_neg t w c
  · by_cases d : t > 157680000000
    · exact ClockDaily_far t w (by omega) d
    · obtain ⟨A, B, hA, hB, a0, a1, b0, b1, hm⟩ := cDaily (t := t) (by omega) (by omega)
      exact ClockDaily_in t w (by omega) (by omega) A B hA hB a0 a1 b0 b1 hm
end Go.Proofs.Ytidlbkljnlfkpaa
