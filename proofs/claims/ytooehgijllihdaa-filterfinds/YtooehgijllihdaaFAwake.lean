/- A part. -/
import Derived.Test.YtooehgijllihdaaJH
import Derived.Test.YtooehgijllihdaaFCMove
import Derived.Test.YtooehgijllihdaaJS
import Derived.Test.YtooehgijllihdaaJE
import Derived.Handy
import Derived.Deep.RegionHeld3
namespace Go.Proofs.Ytooehgijllihdaa
open Go.RowKit
set_option maxRecDepth 100000
set_option maxHeartbeats 20000000
theorem awk_0 : hStartP (0, 0, 0, 1099511627776) = awkS := rfl
theorem pair_of {α : Type} : ∀ (t : α × Bool), t.2 = false → t = (t.1, false)
 | (_, false), _ => rfl
theorem awk_1 : hMoveS false awkS (0, 0, 0) 1000 = (awkM.1, false) := pair_of awkM awk_m.1
theorem awake_any  (w : World) :
  Calls Try.prog 4 #[] w fun e w' => e = .returned (.bool true) ∧ Below w.heap.size w w' := by
 obtain ⟨m0, m1, m2, m3, m4, m5⟩ := awk_m
 have s0 := awk_s.1
 go_enter Try.func4, Try.ntmps4
 have y1_low : w.heap.size ≤ w.heap.size := (Below.refl w.heap.size w).size
 go_wp2_with fail
 refine (hStart_any (0, 0, 0, 1099511627776) _).mono ?_
 rintro e w1 ⟨rfl, k1⟩
 rw [awk_0]
 try dsimp only
 try dsimp only
 have K1 : Below w.heap.size w w1 := bel_then (bel_al (Below.refl w.heap.size w) _) k1
 have B0_1 : Fl w.heap.size false w1 := (Fl_at _ _ _ _ (by simp)).below k1
 have z1 := B0_1.lies
 clear k1
 have y2_B0 := B0_1.lies
 have y2_low : w.heap.size ≤ w1.heap.size := K1.size
 go_wp2_with (refine store_stop rfl (by kernel_rfl) ?_)
 refine Stop.mk (store_row (l' := row 43 awkS) rfl rfl rfl rfl (Arr_at _ _ (row 43 (fun _ => 0)) _ (by simp)) (by simp only [row_len]) (by rw [row_len]; kernel_rfl) (row_one _ _) ?_)
 intro w2 B1_2 o2
 have K2 : Below w.heap.size w w2 := bel_off (bel_al K1 _) o2 y2_low
 have B0_2 := (B0_1.alloc _).off o2 (zL y2_B0)
 have z2_B1 := B1_2.lies
 have z2_B0 := B0_2.lies
 clear K1 B0_1 o2
 go_wp2_with (refine row_load (ty := 38) rfl rfl rfl B1_2 (by kernel_rfl) (by rw [row_len]; kernel_rfl) ?_)
 refine (hMove_any w.heap.size false awkS (0, 0, 0) 1000 _ B0_2).mono ?_
 rintro e w3 ⟨rfl, f3, k3⟩
 rw [awk_1] at f3 ⊢
 dsimp only at f3 ⊢
 try dsimp only
 have K3 : Below w.heap.size w w3 := k3.on K2 (by omega)
 have B1_3 := B1_2.kept k3 (zG y2_B0)
 have z3 := B1_3.lies
 clear K2 B0_2 B1_2 k3
 have y3_B0 := f3.lies
 have y3_B1 := B1_3.lies
 have y3_low : w.heap.size ≤ w3.heap.size := K3.size
 go_wp2_with (refine store_stop rfl (by kernel_rfl) ?_)
 refine Stop.mk (store_row (l' := row 43 awkM.1) rfl rfl rfl rfl (Arr_at _ _ (row 43 (fun _ => 0)) _ (by simp)) (by simp only [row_len]) (by rw [row_len]; kernel_rfl) (row_one _ _) ?_)
 intro w4 B2_4 o4
 have K4 : Below w.heap.size w w4 := bel_off (bel_al K3 _) o4 y3_low
 have B0_4 := (f3.alloc _).off o4 (zL y3_B0)
 have B1_4 := (B1_3.alloc _).off o4 (zL y3_B1)
 have z4_B2 := B2_4.lies
 have z4_B0 := B0_4.lies
 have z4_B1 := B1_4.lies
 clear K3 f3 B1_3 o4
 have c5_B0 := B0_4.cell
 have c5_B1_1 : w4.cell? ⟨w1.heap.size, 7, none⟩ = some (.int .i64 (awkS 7)) := row_c B1_4 7 (by omega)
 have c5_B2_2 : w4.cell? ⟨w3.heap.size, 0, none⟩ = some (.int .i64 (awkM.1 0)) := row_c B2_4 0 (by omega)
 have c5_B2_3 : w4.cell? ⟨w3.heap.size, 1, none⟩ = some (.int .i64 (awkM.1 1)) := row_c B2_4 1 (by omega)
 have c5_B2_4 : w4.cell? ⟨w3.heap.size, 2, none⟩ = some (.int .i64 (awkM.1 2)) := row_c B2_4 2 (by omega)
 have c5_B2_5 : w4.cell? ⟨w3.heap.size, 3, none⟩ = some (.int .i64 (awkM.1 3)) := row_c B2_4 3 (by omega)
 have c5_B2_6 : w4.cell? ⟨w3.heap.size, 7, none⟩ = some (.int .i64 (awkM.1 7)) := row_c B2_4 7 (by omega)
 go_wp2_with (refine row_load_g (by rfl) rfl rfl B1_4 (by kernel_rfl) (by rw [row_len]; kernel_rfl) ?_)
 refine (hSpread_any w.heap.size false awkS _ B0_4).mono ?_
 rintro e w5 ⟨rfl, f5, k5⟩
 rw [awk_s.2] at f5 ⊢
 dsimp only at f5 ⊢
 try dsimp only
 have K5 : Below w.heap.size w w5 := k5.on K4 (by omega)
 have B1_5 := B1_4.kept k5 (zG y2_B0)
 have B2_5 := B2_4.kept k5 (zG y3_B0)
 have z5 := B2_5.lies
 clear c5_B0 c5_B1_1 c5_B2_2 c5_B2_3 c5_B2_4 c5_B2_5 c5_B2_6 K4 B0_4 B1_4 B2_4 k5
 go_wp2
 go_ret
 exact ⟨rfl, K5⟩
end Go.Proofs.Ytooehgijllihdaa
