/-
  The walk of alidadelaw05.awake, for the seat Ytkeijfbpkdelpaa. (Made by mklaw05.py.)
-/
import Derived.Test.YtkeijfbpkdelpaaDAtt
import Derived.Test.YtkeijfbpkdelpaaQEq
import Derived.Test.YtkeijfbpkdelpaaStop
import Derived.Handy
import Derived.Deep.RegionHeld3
namespace Go.Proofs.Ytkeijfbpkdelpaa
open Go.RowKit

theorem awake_att : dAttitudeS false (1099511627776, 0, 0, 0, 1099511627776, 0) (1099511627776, 0, 0, 0, 1099511627776, 0) = ((0, 0, 0, 1099511627776), false) := by decide +kernel
theorem awake_apart : dApartS false (1099511627776, 0, 0) (0, 1099511627776, 0) = (true, false) := by decide +kernel
set_option maxRecDepth 100000 in
set_option maxHeartbeats 4000000 in
theorem awake_any  (w : World) :
    Calls Try.prog 7 #[] w fun e w' => e = .returned (.bool true) ∧ Below w.heap.size w w' := by
  go_enter Try.func7, Try.ntmps7
  go_wp2_with fail
  refine (dAttitude_any w.heap.size false (1099511627776, 0, 0, 0, 1099511627776, 0) (1099511627776, 0, 0, 0, 1099511627776, 0) _ ((Fl_at _ _ _ _ (by simp)).alloc _)).mono ?_
  rintro e w1 ⟨rfl, f1, k1⟩
  rw [awake_att] at f1 ⊢
  dsimp only at f1 ⊢
  have K1 : Below w.heap.size w w1 := k1.on (bel_al (bel_al (Below.refl w.heap.size w) _) _) (by omega)
  have B1_1 : Arr (w.heap.size + 1) [.int .i64 1099511627776, .int .i64 0, .int .i64 0, .int .i64 0, .int .i64 1099511627776, .int .i64 0] w1 := (Arr_at _ _ [.int .i64 1099511627776, .int .i64 0, .int .i64 0, .int .i64 0, .int .i64 1099511627776, .int .i64 0] _ (by simp)).kept k1 (by omega)
  have z1 := B1_1.lies
  clear k1
  have c2_B0 := f1.cell
  have c2_B1_0 : w1.cell? ⟨w.heap.size + 1, 0, none⟩ = some (.int .i64 1099511627776) := B1_1.c 0 (of_decide_eq_true rfl)
  have c2_B1_1 : w1.cell? ⟨w.heap.size + 1, 1, none⟩ = some (.int .i64 0) := B1_1.c 1 (of_decide_eq_true rfl)
  have c2_B1_2 : w1.cell? ⟨w.heap.size + 1, 2, none⟩ = some (.int .i64 0) := B1_1.c 2 (of_decide_eq_true rfl)
  have c2_B1_3 : w1.cell? ⟨w.heap.size + 1, 3, none⟩ = some (.int .i64 0) := B1_1.c 3 (of_decide_eq_true rfl)
  have c2_B1_4 : w1.cell? ⟨w.heap.size + 1, 4, none⟩ = some (.int .i64 1099511627776) := B1_1.c 4 (of_decide_eq_true rfl)
  have c2_B1_5 : w1.cell? ⟨w.heap.size + 1, 5, none⟩ = some (.int .i64 0) := B1_1.c 5 (of_decide_eq_true rfl)
  have l2_B0 := f1.lies
  have l2_B1 := B1_1.lies
  go_wp2_with fail
  refine (dApart_any w.heap.size false (1099511627776, 0, 0) (0, 1099511627776, 0) _ (f1.alloc _)).mono ?_
  rintro e w2 ⟨rfl, f2, k2⟩
  rw [awake_apart] at f2 ⊢
  dsimp only at f2 ⊢
  have K2 : Below w.heap.size w w2 := k2.on (bel_al K1 _) (by omega)
  have B1_2 : Arr (w.heap.size + 1) [.int .i64 1099511627776, .int .i64 0, .int .i64 0, .int .i64 0, .int .i64 1099511627776, .int .i64 0] w2 := (B1_1.alloc _).kept k2 (by omega)
  have B2_2 : Arr w1.heap.size [.int .i64 0, .int .i64 0, .int .i64 0, .int .i64 1099511627776] w2 := (Arr_at _ _ [.int .i64 0, .int .i64 0, .int .i64 0, .int .i64 1099511627776] _ (by simp)).kept k2 (by omega)
  have z2 := B2_2.lies
  clear c2_B0 c2_B1_0 c2_B1_1 c2_B1_2 c2_B1_3 c2_B1_4 c2_B1_5 l2_B0 l2_B1 K1 f1 B1_1 k2
  go_wp2
  go_ret
  exact ⟨rfl, K2⟩
end Go.Proofs.Ytkeijfbpkdelpaa
