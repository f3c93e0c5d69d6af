/-
  The walk of the law FilterMoves, for the seat YtpjobkbefgehjaaGreat. (Made by mklaw14.py.)
-/
import Derived.Test.YtpjobkbefgehjaaGreatFAwake
import Derived.Test.YtpjobkbefgehjaaGreatFLawM
import Derived.Handy
import Derived.Deep.RegionHeld3
namespace Go.Proofs.YtpjobkbefgehjaaGreat
open Go.RowKit

set_option maxRecDepth 100000 in
set_option maxHeartbeats 4000000 in
theorem FilterMoves_any (g : Nat → Int) (v : V3) (k : Int) (w : World) :
  Calls Tryz.prog 3 #[.agg (row 43 g).toArray, .agg #[.int .i64 v.1, .int .i64 v.2.1, .int .i64 v.2.2], .int .i64 k] w fun e w' => e = .returned (.bool true) ∧ Below w.heap.size w w' := by
 go_enter Tryz.func3, Tryz.ntmps3
 have y1_low : w.heap.size ≤ w.heap.size := (Below.refl w.heap.size w).size
 have y2_B0 : w.heap.size < w.heap.size + 1 := (Nat.lt_succ_self _)
 have y2_low : w.heap.size ≤ w.heap.size + 1 := (Nat.le_succ_of_le (Below.refl w.heap.size w).size)
 go_wp2_with fail
 refine (awake_any  _).mono ?_
 rintro e w1 ⟨rfl, k1⟩
 try dsimp only
 have K1 : Below w.heap.size w w1 := bel_then (bel_al (bel_al (Below.refl w.heap.size w) _) _) k1
 have B0_1 : Arr w.heap.size (row 43 g) w1 := ((Arr_at _ _ (row 43 g) _ (by simp)).alloc _).below k1
 have B1_1 : Arr (w.heap.size + 1) [.int .i64 v.1, .int .i64 v.2.1, .int .i64 v.2.2] w1 := (Arr_at _ _ [.int .i64 v.1, .int .i64 v.2.1, .int .i64 v.2.2] _ (by simp)).below k1
 have z1 := B1_1.lies
 clear k1
 have y3_B0 := B0_1.lies
 have y3_B1 := B1_1.lies
 have y3_low : w.heap.size ≤ w1.heap.size := K1.size
 have y4_B0 : w.heap.size < w1.heap.size + 1 := (Nat.lt_succ_of_lt B0_1.lies)
 have y4_B1 : w.heap.size + 1 < w1.heap.size + 1 := (Nat.lt_succ_of_lt B1_1.lies)
 have y4_B2 : w1.heap.size < w1.heap.size + 1 := (Nat.lt_succ_self _)
 have y4_low : w.heap.size ≤ w1.heap.size + 1 := (Nat.le_succ_of_le K1.size)
 go_wp2_with fail
 refine wp_region_held_drew (S := fun w' => Arr w.heap.size (row 43 g) w' ∧ Arr (w.heap.size + 1) [.int .i64 v.1, .int .i64 v.2.1, .int .i64 v.2.2] w') (by kernel_rfl) ⟨((B0_1.alloc _).alloc _).drew, ((B1_1.alloc _).alloc _).drew⟩ (fun hHeld => ?_)
 refine zT (i := 0) (v := ?v1) rfl (by kernel_rfl) (fun _ _ _ h => h) (by rfl) ?y1 hHeld ?t1
 case y1 => (intro wx hSw; go_simp <;> with_reducible rfl)
 simp only [Act.put, zA, zB, zC]
 refine take_at (i := 1) rfl (by kernel_rfl) (by kernel_rfl) (by kernel_rfl) (fun _ _ _ h => h) (row_yield (by rfl) rfl rfl (fun _ hSw => hSw.1) (by kernel_rfl) (by rw [row_len]; kernel_rfl)) hHeld ?_
 simp only [Act.put, zA, zB, zC]
 refine zT (i := 2) (v := ?v2) rfl (by kernel_rfl) (fun _ _ _ h => h) (by rfl) ?y2 hHeld ?t2
 case y2 => (intro wx hSw; have hc0 : wx.cell? ⟨w.heap.size + 1, 0, none⟩ = some (.int .i64 v.1) := hSw.2.c 0 (zD rfl); have hc1 : wx.cell? ⟨w.heap.size + 1, 1, none⟩ = some (.int .i64 v.2.1) := hSw.2.c 1 (zD rfl); have hc2 : wx.cell? ⟨w.heap.size + 1, 2, none⟩ = some (.int .i64 v.2.2) := hSw.2.c 2 (zD rfl); go_simp <;> with_reducible rfl)
 simp only [Act.put, zA, zB, zC]
 refine zT (i := 3) (v := ?v3) rfl (by kernel_rfl) (fun _ _ _ h => h) (by rfl) ?y3 hHeld ?t3
 case y3 => (intro wx hSw; go_simp <;> with_reducible rfl)
 simp only [Act.put, zA, zB, zC]
 refine zT (i := 5) (v := ?v4) rfl (by kernel_rfl) (fun _ _ _ h => h) (by rfl) ?y4 hHeld ?t4
 case y4 => (intro wx hSw; go_simp <;> with_reducible rfl)
 simp only [Act.put, zA, zB, zC]
 refine take_at (i := 6) rfl (by kernel_rfl) (by kernel_rfl) (by kernel_rfl) (fun _ _ _ h => h) (row_yield (by rfl) rfl rfl (fun _ hSw => hSw.1) (by kernel_rfl) (by rw [row_len]; kernel_rfl)) hHeld ?_
 simp only [Act.put, zA, zB, zC]
 refine zT (i := 7) (v := ?v5) rfl (by kernel_rfl) (fun _ _ _ h => h) (by rfl) ?y5 hHeld ?t5
 case y5 => (intro wx hSw; have hc0 : wx.cell? ⟨w.heap.size + 1, 0, none⟩ = some (.int .i64 v.1) := hSw.2.c 0 (zD rfl); have hc1 : wx.cell? ⟨w.heap.size + 1, 1, none⟩ = some (.int .i64 v.2.1) := hSw.2.c 1 (zD rfl); have hc2 : wx.cell? ⟨w.heap.size + 1, 2, none⟩ = some (.int .i64 v.2.2) := hSw.2.c 2 (zD rfl); go_simp <;> with_reducible rfl)
 simp only [Act.put, zA, zB, zC]
 refine zT (i := 8) (v := ?v6) rfl (by kernel_rfl) (fun _ _ _ h => h) (by rfl) ?y6 hHeld ?t6
 case y6 => (intro wx hSw; go_simp <;> with_reducible rfl)
 simp only [Act.put, zA, zB, zC]
 refine call_at (i := 4) (by kernel_rfl) rfl (fun K hK => ?_)
 go_simp
 refine (hMove_any w1.heap.size false g v k _ ((Fl_at _ _ _ _ (by simp)).alloc _).drew).mono ?_
 rintro e w2 ⟨rfl, f2, k2⟩
 generalize e2 : hMoveS false g v k = r2 at f2 ⊢
 have E2 : Hid _ := e2
 clear e2
 have K2 : Below w.heap.size w w2 := k2.on (Below.drew (bel_al (bel_al K1 _) _)) (by omega)
 have B0_2 := ((B0_1.alloc _).alloc _).drew.kept k2 (zL y3_B0)
 have B1_2 := ((B1_1.alloc _).alloc _).drew.kept k2 (zL y3_B1)
 have B3_2 : Fl (w1.heap.size + 1) false w2 := (Fl_at _ _ _ _ (by simp)).drew.kept k2 (zG y4_B2)
 have z2 := B3_2.lies
 clear hHeld
 refine hK.out _ _ ⟨B0_2, B1_2⟩ (fun hHeld => ?_)
 clear hK K K1 B0_1 B1_1 k2
 refine wpAnyH_swap (S := fun w' => Arr w.heap.size (row 43 g) w' ∧ Arr (w.heap.size + 1) [.int .i64 v.1, .int .i64 v.2.1, .int .i64 v.2.2] w' ∧ Fl w1.heap.size r2.2 w') (fun _ h => ⟨h.1, h.2.1⟩) ?_
 clear hHeld
 have hHeld : Arr w.heap.size (row 43 g) w2 ∧ Arr (w.heap.size + 1) [.int .i64 v.1, .int .i64 v.2.1, .int .i64 v.2.2] w2 ∧ Fl w1.heap.size r2.2 w2 := ⟨B0_2, B1_2, f2⟩
 refine call_at (i := 9) (by kernel_rfl) rfl (fun K hK => ?_)
 go_simp
 refine (fMoveC_any (w1.heap.size + 1) false g v k _ B3_2 rfl).mono ?_
 rintro e w3 ⟨rfl, f3, k3⟩
 rw [E2.out] at f3 ⊢
 have K3 : Below w.heap.size w w3 := k3.on K2 (by omega)
 have B0_3 := B0_2.kept k3 (zL y4_B0)
 have B1_3 := B1_2.kept k3 (zL y4_B1)
 have B2_3 := f2.kept k3 (zL y4_B2)
 have z3 := f3.lies
 clear hHeld
 refine hK.out _ _ ⟨B0_3, B1_3, B2_3⟩ (fun hHeld => ?_)
 clear hK K K2 B0_2 B1_2 f2 B3_2 k3
 refine wpAnyH_swap (S := fun w' => Arr w.heap.size (row 43 g) w' ∧ Arr (w.heap.size + 1) [.int .i64 v.1, .int .i64 v.2.1, .int .i64 v.2.2] w' ∧ Fl w1.heap.size r2.2 w' ∧ Fl (w1.heap.size + 1) r2.2 w') (fun _ h => ⟨h.1, h.2.1, h.2.2.1⟩) ?_
 clear hHeld
 have hHeld : Arr w.heap.size (row 43 g) w3 ∧ Arr (w.heap.size + 1) [.int .i64 v.1, .int .i64 v.2.1, .int .i64 v.2.2] w3 ∧ Fl w1.heap.size r2.2 w3 ∧ Fl (w1.heap.size + 1) r2.2 w3 := ⟨B0_3, B1_3, B2_3, f3⟩
 refine zT (i := 10) (v := ?v7) rfl (by kernel_rfl) (fun _ _ _ h => h) (by rfl) ?y7 hHeld ?t7
 case y7 => (intro wx hSw; go_simp <;> with_reducible rfl)
 simp only [Act.put, zA, zB, zC]
 refine zT (i := 11) (v := ?v8) rfl (by kernel_rfl) (fun _ _ _ h => h) (by rfl) ?y8 hHeld ?t8
 case y8 => (intro wx hSw; go_simp <;> with_reducible rfl)
 simp only [Act.put, zA, zB, zC]
 refine zT (i := 12) (v := ?v9) rfl (by kernel_rfl) (fun _ _ _ h => h) (by rfl) ?y9 hHeld ?t9
 case y9 => (intro wx hSw; go_simp <;> with_reducible rfl)
 simp only [Act.put, zA, zB, zC]
 refine zT (i := 13) (v := ?v10) rfl (by kernel_rfl) (fun _ _ _ h => h) (by rfl) ?y10 hHeld ?t10
 case y10 => (intro wx hSw; go_simp <;> with_reducible rfl)
 simp only [Act.put, zA, zB, zC]
 refine zT (i := 14) (v := ?v11) rfl (by kernel_rfl) (fun _ _ _ h => h) (by rfl) ?y11 hHeld ?t11
 case y11 => (intro wx hSw; go_simp <;> with_reducible rfl)
 simp only [Act.put, zA, zB, zC]
 refine zT (i := 15) (v := ?v12) rfl (by kernel_rfl) (fun _ _ _ h => h) (by rfl) ?y12 hHeld ?t12
 case y12 => (intro wx hSw; have hc0 : wx.cell? ⟨w1.heap.size, 0, none⟩ = some (.bool r2.2) := hSw.2.2.1.cell; go_simp <;> with_reducible rfl)
 simp only [Act.put, zA, zB, zC]
 refine zT (i := 16) (v := ?v13) rfl (by kernel_rfl) (fun _ _ _ h => h) (by rfl) ?y13 hHeld ?t13
 case y13 => (intro wx hSw; go_simp <;> with_reducible rfl)
 simp only [Act.put, zA, zB, zC]
 refine zT (i := 17) (v := ?v14) rfl (by kernel_rfl) (fun _ _ _ h => h) (by rfl) ?y14 hHeld ?t14
 case y14 => (intro wx hSw; go_simp <;> with_reducible rfl)
 simp only [Act.put, zA, zB, zC]
 refine zT (i := 18) (v := ?v15) rfl (by kernel_rfl) (fun _ _ _ h => h) (by rfl) ?y15 hHeld ?t15
 case y15 => (intro wx hSw; go_simp <;> with_reducible rfl)
 simp only [Act.put, zA, zB, zC]
 refine zT (i := 19) (v := ?v16) rfl (by kernel_rfl) (fun _ _ _ h => h) (by rfl) ?y16 hHeld ?t16
 case y16 => (intro wx hSw; have hc0 : wx.cell? ⟨w1.heap.size + 1, 0, none⟩ = some (.bool r2.2) := hSw.2.2.2.cell; go_simp <;> with_reducible rfl)
 simp only [Act.put, zA, zB, zC]
 refine zT (i := 20) (v := ?v17) rfl (by kernel_rfl) (fun _ _ _ h => h) (by rfl) ?y17 hHeld ?t17
 case y17 => (intro wx hSw; go_simp <;> with_reducible rfl)
 simp only [Act.put, zA, zB, zC]
 refine zT (i := 21) (v := ?v18) rfl (by kernel_rfl) (fun _ _ _ h => h) (by rfl) ?y18 hHeld ?t18
 case y18 => (intro wx hSw; go_simp <;> with_reducible rfl)
 simp only [Act.put, zA, zB, zC]
 refine zT (i := 22) (v := ?v19) rfl (by kernel_rfl) (fun _ _ _ h => h) (by rfl) ?y19 hHeld ?t19
 case y19 => (intro wx hSw; go_simp <;> with_reducible rfl)
 simp only [Act.put, zA, zB, zC]
 refine wpAnyH_done (by kernel_rfl) ?_ _
 clear hHeld
 go_wp2
 go_ret
 exact ⟨rfl, K3⟩
end Go.Proofs.YtpjobkbefgehjaaGreat
