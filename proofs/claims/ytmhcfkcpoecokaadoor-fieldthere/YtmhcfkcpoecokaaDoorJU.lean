/-
  When two of api.Vec are equal, for the seat YtmhcfkcpoecokaaDoor.
  awake, for the seat YtmhcfkcpoecokaaDoor. (Made by mkfield.py.)
-/
import Derived.Test.YtmhcfkcpoecokaaDoorJE
import Derived.Test.YtmhcfkcpoecokaaDoorJT
import Derived.Laws.StructEq
import Derived.Handy
import Derived.Deep.RegionHeld3
namespace Go.Proofs.YtmhcfkcpoecokaaDoor
open Go.RowKit

@[go_sem] theorem eqVec (a b c x y z : Int) (w : World) : (Op.equalIn 10000 33 (.agg #[.int .i64 a, .int .i64 b, .int .i64 c]) (.agg #[.int .i64 x, .int .i64 y, .int .i64 z])).run Tryd.prog w = .ok (a == x && (b == y && c == z)) w := by
  have u := Tryd.underlying2
  have ia := Tryd.isAgg2
  have zs := Tryd.sizeOf2
  rw [show (10000 : Nat) = 9999 + 1 from rfl, Op.equalIn]
  simp only [Sem.run_bind, run_underlying Tryd.underlying33, Result.andThen_ok]
  simp only [Std.Legacy.Range.forIn_eq_forIn_range', Std.Legacy.Range.size, Nat.sub_zero, Nat.add_sub_cancel, Nat.div_one, List.range'_succ, List.range'_zero, List.forIn_cons, List.forIn_nil]
  go_simp
  by_cases h1 : a = x <;> by_cases h2 : b = y <;> by_cases h3 : c = z <;> simp [h1, h2, h3]
end Go.Proofs.YtmhcfkcpoecokaaDoor
namespace Go.Proofs.YtmhcfkcpoecokaaDoor
open Go.RowKit

theorem awake_earth : earS false (7005208482886, 0, 0) 0 = ((17305855237390, -2111630386990, 29747612358906), false) := by decide +kernel
theorem awake_num : numS false 1 0 0 = ((-32270666275226, 0), false) := by decide +kernel
set_option maxRecDepth 100000 in
set_option maxHeartbeats 4000000 in
theorem awake_any  (w : World) (hG0 : Arr 0 (row 54 at0) w) (hG1 : Arr 1 (row 10 yr0) w) :
    Calls Tryd.prog 8 #[] w fun e w' => e = .returned (.bool true) ∧ Below w.heap.size w w' := by
  have l_0 := hG0.lies
  have l_1 := hG1.lies
  go_enter Tryd.func8, Tryd.ntmps8
  have y1_G0 : 0 < w.heap.size := hG0.lies
  have y1_G1 : 1 < w.heap.size := hG1.lies
  have y1_low : w.heap.size ≤ w.heap.size := (Below.refl w.heap.size w).size
  go_wp2_with fail
  refine (earth_any w.heap.size false (7005208482886, 0, 0) 0 _ (Fl_at _ _ _ _ (by simp)) (hG0.alloc _) (hG1.alloc _) (by omega)).mono ?_
  rintro e w1 ⟨rfl, f1, k1⟩
  rw [awake_earth] at f1 ⊢
  dsimp only at f1 ⊢
  have K1 : Below w.heap.size w w1 := k1.on (bel_al (Below.refl w.heap.size w) _) (by omega)
  have G0_1 : Arr 0 (row 54 at0) w1 := (hG0.alloc _).kept k1 (Nat.ne_of_lt y1_G0)
  have G1_1 : Arr 1 (row 10 yr0) w1 := (hG1.alloc _).kept k1 (Nat.ne_of_lt y1_G1)
  have z1 := f1.lies
  clear hG0 hG1 k1
  have y2_G0 : 0 < w1.heap.size := G0_1.lies
  have y2_G1 : 1 < w1.heap.size := G1_1.lies
  have y2_B0 : w.heap.size < w1.heap.size := f1.lies
  have y2_low : w.heap.size ≤ w1.heap.size := K1.size
  go_wp2_with fail
  refine (num_any w.heap.size false 1 0 0 _ (f1.alloc _) (G0_1.alloc _) (G1_1.alloc _) (by omega) rfl).mono ?_
  rintro e w2 ⟨rfl, f2, k2⟩
  rw [awake_num] at f2 ⊢
  dsimp only at f2 ⊢
  have K2 : Below w.heap.size w w2 := k2.on (bel_al K1 _) (by omega)
  have G0_2 : Arr 0 (row 54 at0) w2 := (G0_1.alloc _).kept k2 (Nat.ne_of_lt y1_G0)
  have G1_2 : Arr 1 (row 10 yr0) w2 := (G1_1.alloc _).kept k2 (Nat.ne_of_lt y1_G1)
  have B1_2 : Arr w1.heap.size [.int .i64 17305855237390, .int .i64 (-2111630386990), .int .i64 29747612358906] w2 := (Arr_at _ _ [.int .i64 17305855237390, .int .i64 (-2111630386990), .int .i64 29747612358906] _ (by simp)).kept k2 (Nat.ne_of_gt y2_B0)
  have z2 := B1_2.lies
  clear K1 G0_1 G1_1 f1 k2
  have c3_B0 := f2.cell
  have c3_B1_2 : w2.cell? ⟨w1.heap.size, 2, none⟩ = some (.int .i64 29747612358906) := B1_2.c 2 (of_decide_eq_true rfl)
  go_wp2
  clear c3_B0 c3_B1_2
  go_ret
  exact ⟨rfl, K2⟩
end Go.Proofs.YtmhcfkcpoecokaaDoor
