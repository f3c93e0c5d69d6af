/- A part. -/
import Derived.Handy
import Derived.Deep.RegionHeld3
import Derived.Test.YtbophanlmkbfeaaGreatDoorHC24
import Derived.Test.YtbophanlmkbfeaaGreatDoorHC10
import Derived.Test.YtbophanlmkbfeaaGreatDoorHC11
namespace Go.Proofs.YtbophanlmkbfeaaGreatDoor
open Go.RowKit
set_option maxRecDepth 100000
set_option maxHeartbeats 20000000
theorem rounds_w (b : Nat) (u v : Int) (g : Nat → Int) (w : World) (hw : Fl b false w) (T1 : WaveT 1099511627776 0 u v (g 1) (g 8)) (T2 : WaveT (g 1) (g 8) u v (g 2) (g 9)) (T3 : WaveT (g 2) (g 9) u v (g 3) (g 10)) (T4 : WaveT (g 3) (g 10) u v (g 4) (g 11)) (T5 : WaveT (g 4) (g 11) u v (g 5) (g 12)) (T6 : WaveT (g 5) (g 12) u v (g 6) (g 13)) :
    Calls Tryz.prog 170 #[.pointer (some ⟨b, 0, none⟩), .int .i64 u, .int .i64 v] w fun e w' => e = .returned (.agg #[.int .i64 1099511627776, .int .i64 (g 1), .int .i64 (g 2), .int .i64 (g 3), .int .i64 (g 4), .int .i64 (g 5), .int .i64 (g 6), .int .i64 0, .int .i64 (g 8), .int .i64 (g 9), .int .i64 (g 10), .int .i64 (g 11), .int .i64 (g 12), .int .i64 (g 13)]) ∧ Fl b false w' ∧ Kept b w w' := by
 have hl := hw.lies
 go_enter Tryz.func170, Tryz.ntmps170
 have y1_BF := hw.lies
 have y2_BF : b < w.heap.size + 1 := (Nat.lt_succ_of_lt hw.lies)
 have y2_B0 : w.heap.size < w.heap.size + 1 := by omega
 go_wp2_with fail
 refine wp_loop_rounds 7 ?_
 rw [rounds_succ]
 go_wp2_with fail
 refine wp_region_held_drew (S := fun w' => Arr (w.heap.size + 1) [.int .i64 1099511627776, .int .i64 0, .int .i64 0, .int .i64 0, .int .i64 0, .int .i64 0, .int .i64 0, .int .i64 0, .int .i64 0, .int .i64 0, .int .i64 0, .int .i64 0, .int .i64 0, .int .i64 0] w') (by kernel_rfl) (Arr_at _ _ [.int .i64 1099511627776, .int .i64 0, .int .i64 0, .int .i64 0, .int .i64 0, .int .i64 0, .int .i64 0, .int .i64 0, .int .i64 0, .int .i64 0, .int .i64 0, .int .i64 0, .int .i64 0, .int .i64 0] _ (by simp)).drew (fun zH => ?_)
 refine zT 0 rfl (by kernel_rfl) (fun _ _ _ => id) rfl (fun _ _ => by go_simp <;> with_reducible rfl) zH ?_
 simp only [Act.put, zA, zB, zC]
 refine zT 1 rfl (by kernel_rfl) (fun _ _ _ => id) rfl (fun _ _ => by go_simp <;> with_reducible rfl) zH ?_
 simp only [Act.put, zA, zB, zC]
 rw [IntWalk.i64_in 0 (by omega)]
 refine zT 2 rfl (by kernel_rfl) (fun _ _ _ => id) rfl (fun _ _ => by go_simp <;> with_reducible rfl) zH ?_
 simp only [Act.put, zA, zB, zC]
 refine zT 3 rfl (by kernel_rfl) (fun _ _ _ => id) rfl (fun _ _ => by go_simp <;> with_reducible rfl) zH ?_
 simp only [Act.put, zA, zB, zC]
 refine zT 4 rfl (by kernel_rfl) (fun _ _ _ => id) rfl (fun wx hS => by have hc0 : wx.cell? ⟨w.heap.size + 1, 0, none⟩ = some (.int .i64 1099511627776) := hS.c 0 (zD rfl); go_simp <;> with_reducible rfl) zH ?_
 simp only [Act.put, zA, zB, zC]
 refine zT 5 rfl (by kernel_rfl) (fun _ _ _ => id) rfl (fun _ _ => by go_simp <;> with_reducible rfl) zH ?_
 simp only [Act.put, zA, zB, zC]
 refine zT 6 rfl (by kernel_rfl) (fun _ _ _ => id) rfl (fun _ _ => by go_simp <;> with_reducible rfl) zH ?_
 simp only [Act.put, zA, zB, zC]
 rw [IntWalk.i64_in 0 (by omega)]
 refine zT 7 rfl (by kernel_rfl) (fun _ _ _ => id) rfl (fun _ _ => by go_simp <;> with_reducible rfl) zH ?_
 simp only [Act.put, zA, zB, zC]
 refine zT 8 rfl (by kernel_rfl) (fun _ _ _ => id) rfl (fun _ _ => by go_simp <;> with_reducible rfl) zH ?_
 simp only [Act.put, zA, zB, zC]
 refine zT 9 rfl (by kernel_rfl) (fun _ _ _ => id) rfl (fun wx hS => by have hc7 : wx.cell? ⟨w.heap.size + 1, 7, none⟩ = some (.int .i64 0) := hS.c 7 (zD rfl); go_simp <;> with_reducible rfl) zH ?_
 simp only [Act.put, zA, zB, zC]
 refine zT 10 rfl (by kernel_rfl) (fun _ _ _ => id) rfl (fun _ _ => by go_simp <;> with_reducible rfl) zH ?_
 simp only [Act.put, zA, zB, zC]
 refine zT 11 rfl (by kernel_rfl) (fun _ _ _ => id) rfl (fun _ _ => by go_simp <;> with_reducible rfl) zH ?_
 simp only [Act.put, zA, zB, zC]
 refine wpAnyH_done (by kernel_rfl) ?_ _
 clear zH
 go_wp2_with fail
 refine (Mul_any b false 1099511627776 u _ ((hw.alloc _).alloc _).drew).mono ?_
 rintro e w1 ⟨rfl, f1, k1⟩
 rw [T1.h1] at f1 ⊢
 dsimp only at f1 ⊢
 have K1 : Kept b w w1 := Kept.trans (((Kept.refl b w).al _).al _).drew k1
 have B0_1 := ((Arr_at _ w.heap.size [.int .i64 0, .int .i64 0, .int .i64 0, .int .i64 0, .int .i64 0, .int .i64 0, .int .i64 0, .int .i64 0, .int .i64 0, .int .i64 0, .int .i64 0, .int .i64 0, .int .i64 0, .int .i64 0] _ (by simp)).alloc _).drew.kept k1 (zG y1_BF)
 have B1_1 := (Arr_at _ (w.heap.size + 1) [.int .i64 1099511627776, .int .i64 0, .int .i64 0, .int .i64 0, .int .i64 0, .int .i64 0, .int .i64 0, .int .i64 0, .int .i64 0, .int .i64 0, .int .i64 0, .int .i64 0, .int .i64 0, .int .i64 0] _ (by simp)).drew.kept k1 (zG y2_BF)
 have z1 := B1_1.lies
 clear k1
 go_wp2_with fail
 refine (Mul_any b false 0 v _ f1).mono ?_
 rintro e w2 ⟨rfl, f2, k2⟩
 rw [T1.h2] at f2 ⊢
 dsimp only at f2 ⊢
 have K2 := Kept.trans K1 k2
 have B0_2 := B0_1.kept k2 (zG y1_BF)
 have B1_2 := B1_1.kept k2 (zG y2_BF)
 have z2 := B1_2.lies
 clear K1 f1 B0_1 B1_1 k2
 go_wp2_with fail
 refine (Sub_any b false T1.v1 T1.v2 _ f2).mono ?_
 rintro e w3 ⟨rfl, f3, k3⟩
 rw [T1.h3] at f3 ⊢
 dsimp only at f3 ⊢
 have K3 := Kept.trans K2 k3
 have B0_3 := B0_2.kept k3 (zG y1_BF)
 have B1_3 := B1_2.kept k3 (zG y2_BF)
 have z3 := B1_3.lies
 clear K2 f2 B0_2 B1_2 k3
 have c6_B1_1 : w3.cell? ⟨w.heap.size + 1, 1, none⟩ = some (.int .i64 0) := B1_3.c 1 (zD rfl)
 have g6_B1_1 := B1_3.f 1 (zD rfl)
 go_wp2_with fail
 refine (Mul_any b false 0 u _ (f3.new (w.heap.size + 1) 1 (zL y2_BF) (.int .i64 (g 1)))).mono ?_
 rintro e w4 ⟨rfl, f4, k4⟩
 rw [T1.h4] at f4 ⊢
 dsimp only at f4 ⊢
 have K4 : Kept b w w4 := Kept.trans (K3.new _ _ (by omega) _) k4
 have B0_4 := (B0_3.new (w.heap.size + 1) 1 (zL y2_B0) (.int .i64 (g 1))).kept k4 (zG y1_BF)
 have B1_4 := (B1_3.put 1 (zD rfl) (.int .i64 (g 1)) [.int .i64 1099511627776, .int .i64 (g 1), .int .i64 0, .int .i64 0, .int .i64 0, .int .i64 0, .int .i64 0, .int .i64 0, .int .i64 0, .int .i64 0, .int .i64 0, .int .i64 0, .int .i64 0, .int .i64 0] rfl).kept k4 (zG y2_BF)
 have z4 := B1_4.lies
 clear c6_B1_1 g6_B1_1 K3 f3 B0_3 B1_3 k4
 go_wp2_with fail
 refine (Mul_any b false 1099511627776 v _ f4).mono ?_
 rintro e w5 ⟨rfl, f5, k5⟩
 rw [T1.h5] at f5 ⊢
 dsimp only at f5 ⊢
 have K5 := Kept.trans K4 k5
 have B0_5 := B0_4.kept k5 (zG y1_BF)
 have B1_5 := B1_4.kept k5 (zG y2_BF)
 have z5 := B1_5.lies
 clear K4 f4 B0_4 B1_4 k5
 go_wp2_with fail
 refine (Add_any b false T1.v4 T1.v5 _ f5).mono ?_
 rintro e w6 ⟨rfl, f6, k6⟩
 rw [T1.h6] at f6 ⊢
 dsimp only at f6 ⊢
 have K6 := Kept.trans K5 k6
 have B0_6 := B0_5.kept k6 (zG y1_BF)
 have B1_6 := B1_5.kept k6 (zG y2_BF)
 have z6 := B1_6.lies
 clear K5 f5 B0_5 B1_5 k6
 have c9_B1_8 : w6.cell? ⟨w.heap.size + 1, 8, none⟩ = some (.int .i64 0) := B1_6.c 8 (zD rfl)
 have g9_B1_8 := B1_6.f 8 (zD rfl)
 go_wp2_with fail
 clear c9_B1_8 g9_B1_8
 refine rounds_letter (S := fun w' => Kept b w w' ∧ Fl b false w' ∧ Arr w.heap.size [.int .i64 0, .int .i64 0, .int .i64 0, .int .i64 0, .int .i64 0, .int .i64 0, .int .i64 0, .int .i64 0, .int .i64 0, .int .i64 0, .int .i64 0, .int .i64 0, .int .i64 0, .int .i64 0] w' ∧ Arr (w.heap.size + 1) [.int .i64 1099511627776, .int .i64 (g 1), .int .i64 0, .int .i64 0, .int .i64 0, .int .i64 0, .int .i64 0, .int .i64 0, .int .i64 (g 8), .int .i64 0, .int .i64 0, .int .i64 0, .int .i64 0, .int .i64 0] w') ⟨(K6.new _ _ (by omega) _), (f6.new (w.heap.size + 1) 8 (zL y2_BF) (.int .i64 (g 8))), (B0_6.new (w.heap.size + 1) 8 (zL y2_B0) (.int .i64 (g 8))), (B1_6.put 8 (zD rfl) (.int .i64 (g 8)) [.int .i64 1099511627776, .int .i64 (g 1), .int .i64 0, .int .i64 0, .int .i64 0, .int .i64 0, .int .i64 0, .int .i64 0, .int .i64 (g 8), .int .i64 0, .int .i64 0, .int .i64 0, .int .i64 0, .int .i64 0] rfl)⟩ ?_
 rintro w7 ⟨K7, BF_7, B0_7, B1_7⟩
 have z7 := B1_7.lies
 clear K6 f6 B0_6 B1_6
 rw [rounds_succ]
 go_wp2_with fail
 refine wp_region_held_drew (S := fun w' => Arr (w.heap.size + 1) [.int .i64 1099511627776, .int .i64 (g 1), .int .i64 0, .int .i64 0, .int .i64 0, .int .i64 0, .int .i64 0, .int .i64 0, .int .i64 (g 8), .int .i64 0, .int .i64 0, .int .i64 0, .int .i64 0, .int .i64 0] w') (by kernel_rfl) B1_7.drew (fun zH => ?_)
 refine zT 0 rfl (by kernel_rfl) (fun _ _ _ => id) rfl (fun _ _ => by go_simp <;> with_reducible rfl) zH ?_
 simp only [Act.put, zA, zB, zC]
 refine zT 1 rfl (by kernel_rfl) (fun _ _ _ => id) rfl (fun _ _ => by go_simp <;> with_reducible rfl) zH ?_
 simp only [Act.put, zA, zB, zC]
 rw [IntWalk.i64_in 1 (by omega)]
 refine zT 2 rfl (by kernel_rfl) (fun _ _ _ => id) rfl (fun _ _ => by go_simp <;> with_reducible rfl) zH ?_
 simp only [Act.put, zA, zB, zC]
 refine zT 3 rfl (by kernel_rfl) (fun _ _ _ => id) rfl (fun _ _ => by go_simp <;> with_reducible rfl) zH ?_
 simp only [Act.put, zA, zB, zC]
 refine zT 4 rfl (by kernel_rfl) (fun _ _ _ => id) rfl (fun wx hS => by have hc1 : wx.cell? ⟨w.heap.size + 1, 1, none⟩ = some (.int .i64 (g 1)) := hS.c 1 (zD rfl); go_simp <;> with_reducible rfl) zH ?_
 simp only [Act.put, zA, zB, zC]
 refine zT 5 rfl (by kernel_rfl) (fun _ _ _ => id) rfl (fun _ _ => by go_simp <;> with_reducible rfl) zH ?_
 simp only [Act.put, zA, zB, zC]
 refine zT 6 rfl (by kernel_rfl) (fun _ _ _ => id) rfl (fun _ _ => by go_simp <;> with_reducible rfl) zH ?_
 simp only [Act.put, zA, zB, zC]
 rw [IntWalk.i64_in 1 (by omega)]
 refine zT 7 rfl (by kernel_rfl) (fun _ _ _ => id) rfl (fun _ _ => by go_simp <;> with_reducible rfl) zH ?_
 simp only [Act.put, zA, zB, zC]
 refine zT 8 rfl (by kernel_rfl) (fun _ _ _ => id) rfl (fun _ _ => by go_simp <;> with_reducible rfl) zH ?_
 simp only [Act.put, zA, zB, zC]
 refine zT 9 rfl (by kernel_rfl) (fun _ _ _ => id) rfl (fun wx hS => by have hc8 : wx.cell? ⟨w.heap.size + 1, 8, none⟩ = some (.int .i64 (g 8)) := hS.c 8 (zD rfl); go_simp <;> with_reducible rfl) zH ?_
 simp only [Act.put, zA, zB, zC]
 refine zT 10 rfl (by kernel_rfl) (fun _ _ _ => id) rfl (fun _ _ => by go_simp <;> with_reducible rfl) zH ?_
 simp only [Act.put, zA, zB, zC]
 refine zT 11 rfl (by kernel_rfl) (fun _ _ _ => id) rfl (fun _ _ => by go_simp <;> with_reducible rfl) zH ?_
 simp only [Act.put, zA, zB, zC]
 refine wpAnyH_done (by kernel_rfl) ?_ _
 clear zH
 go_wp2_with fail
 refine (Mul_any b false (g 1) u _ BF_7.drew).mono ?_
 rintro e w8 ⟨rfl, f8, k8⟩
 rw [T2.h1] at f8 ⊢
 dsimp only at f8 ⊢
 have K8 : Kept b w w8 := Kept.trans K7.drew k8
 have B0_8 := B0_7.drew.kept k8 (zG y1_BF)
 have B1_8 := B1_7.drew.kept k8 (zG y2_BF)
 have z8 := B1_8.lies
 clear K7 BF_7 B0_7 B1_7 k8
 go_wp2_with fail
 refine (Mul_any b false (g 8) v _ f8).mono ?_
 rintro e w9 ⟨rfl, f9, k9⟩
 rw [T2.h2] at f9 ⊢
 dsimp only at f9 ⊢
 have K9 := Kept.trans K8 k9
 have B0_9 := B0_8.kept k9 (zG y1_BF)
 have B1_9 := B1_8.kept k9 (zG y2_BF)
 have z9 := B1_9.lies
 clear K8 f8 B0_8 B1_8 k9
 go_wp2_with fail
 refine (Sub_any b false T2.v1 T2.v2 _ f9).mono ?_
 rintro e w10 ⟨rfl, f10, k10⟩
 rw [T2.h3] at f10 ⊢
 dsimp only at f10 ⊢
 have K10 := Kept.trans K9 k10
 have B0_10 := B0_9.kept k10 (zG y1_BF)
 have B1_10 := B1_9.kept k10 (zG y2_BF)
 have z10 := B1_10.lies
 clear K9 f9 B0_9 B1_9 k10
 have c14_B1_2 : w10.cell? ⟨w.heap.size + 1, 2, none⟩ = some (.int .i64 0) := B1_10.c 2 (zD rfl)
 have g14_B1_2 := B1_10.f 2 (zD rfl)
 go_wp2_with fail
 refine (Mul_any b false (g 8) u _ (f10.new (w.heap.size + 1) 2 (zL y2_BF) (.int .i64 (g 2)))).mono ?_
 rintro e w11 ⟨rfl, f11, k11⟩
 rw [T2.h4] at f11 ⊢
 dsimp only at f11 ⊢
 have K11 : Kept b w w11 := Kept.trans (K10.new _ _ (by omega) _) k11
 have B0_11 := (B0_10.new (w.heap.size + 1) 2 (zL y2_B0) (.int .i64 (g 2))).kept k11 (zG y1_BF)
 have B1_11 := (B1_10.put 2 (zD rfl) (.int .i64 (g 2)) [.int .i64 1099511627776, .int .i64 (g 1), .int .i64 (g 2), .int .i64 0, .int .i64 0, .int .i64 0, .int .i64 0, .int .i64 0, .int .i64 (g 8), .int .i64 0, .int .i64 0, .int .i64 0, .int .i64 0, .int .i64 0] rfl).kept k11 (zG y2_BF)
 have z11 := B1_11.lies
 clear c14_B1_2 g14_B1_2 K10 f10 B0_10 B1_10 k11
 go_wp2_with fail
 refine (Mul_any b false (g 1) v _ f11).mono ?_
 rintro e w12 ⟨rfl, f12, k12⟩
 rw [T2.h5] at f12 ⊢
 dsimp only at f12 ⊢
 have K12 := Kept.trans K11 k12
 have B0_12 := B0_11.kept k12 (zG y1_BF)
 have B1_12 := B1_11.kept k12 (zG y2_BF)
 have z12 := B1_12.lies
 clear K11 f11 B0_11 B1_11 k12
 go_wp2_with fail
 refine (Add_any b false T2.v4 T2.v5 _ f12).mono ?_
 rintro e w13 ⟨rfl, f13, k13⟩
 rw [T2.h6] at f13 ⊢
 dsimp only at f13 ⊢
 have K13 := Kept.trans K12 k13
 have B0_13 := B0_12.kept k13 (zG y1_BF)
 have B1_13 := B1_12.kept k13 (zG y2_BF)
 have z13 := B1_13.lies
 clear K12 f12 B0_12 B1_12 k13
 have c17_B1_9 : w13.cell? ⟨w.heap.size + 1, 9, none⟩ = some (.int .i64 0) := B1_13.c 9 (zD rfl)
 have g17_B1_9 := B1_13.f 9 (zD rfl)
 go_wp2_with fail
 clear c17_B1_9 g17_B1_9
 refine rounds_letter (S := fun w' => Kept b w w' ∧ Fl b false w' ∧ Arr w.heap.size [.int .i64 0, .int .i64 0, .int .i64 0, .int .i64 0, .int .i64 0, .int .i64 0, .int .i64 0, .int .i64 0, .int .i64 0, .int .i64 0, .int .i64 0, .int .i64 0, .int .i64 0, .int .i64 0] w' ∧ Arr (w.heap.size + 1) [.int .i64 1099511627776, .int .i64 (g 1), .int .i64 (g 2), .int .i64 0, .int .i64 0, .int .i64 0, .int .i64 0, .int .i64 0, .int .i64 (g 8), .int .i64 (g 9), .int .i64 0, .int .i64 0, .int .i64 0, .int .i64 0] w') ⟨(K13.new _ _ (by omega) _), (f13.new (w.heap.size + 1) 9 (zL y2_BF) (.int .i64 (g 9))), (B0_13.new (w.heap.size + 1) 9 (zL y2_B0) (.int .i64 (g 9))), (B1_13.put 9 (zD rfl) (.int .i64 (g 9)) [.int .i64 1099511627776, .int .i64 (g 1), .int .i64 (g 2), .int .i64 0, .int .i64 0, .int .i64 0, .int .i64 0, .int .i64 0, .int .i64 (g 8), .int .i64 (g 9), .int .i64 0, .int .i64 0, .int .i64 0, .int .i64 0] rfl)⟩ ?_
 rintro w14 ⟨K14, BF_14, B0_14, B1_14⟩
 have z14 := B1_14.lies
 clear K13 f13 B0_13 B1_13
 rw [rounds_succ]
 go_wp2_with fail
 refine wp_region_held_drew (S := fun w' => Arr (w.heap.size + 1) [.int .i64 1099511627776, .int .i64 (g 1), .int .i64 (g 2), .int .i64 0, .int .i64 0, .int .i64 0, .int .i64 0, .int .i64 0, .int .i64 (g 8), .int .i64 (g 9), .int .i64 0, .int .i64 0, .int .i64 0, .int .i64 0] w') (by kernel_rfl) B1_14.drew (fun zH => ?_)
 refine zT 0 rfl (by kernel_rfl) (fun _ _ _ => id) rfl (fun _ _ => by go_simp <;> with_reducible rfl) zH ?_
 simp only [Act.put, zA, zB, zC]
 refine zT 1 rfl (by kernel_rfl) (fun _ _ _ => id) rfl (fun _ _ => by go_simp <;> with_reducible rfl) zH ?_
 simp only [Act.put, zA, zB, zC]
 rw [IntWalk.i64_in 2 (by omega)]
 refine zT 2 rfl (by kernel_rfl) (fun _ _ _ => id) rfl (fun _ _ => by go_simp <;> with_reducible rfl) zH ?_
 simp only [Act.put, zA, zB, zC]
 refine zT 3 rfl (by kernel_rfl) (fun _ _ _ => id) rfl (fun _ _ => by go_simp <;> with_reducible rfl) zH ?_
 simp only [Act.put, zA, zB, zC]
 refine zT 4 rfl (by kernel_rfl) (fun _ _ _ => id) rfl (fun wx hS => by have hc2 : wx.cell? ⟨w.heap.size + 1, 2, none⟩ = some (.int .i64 (g 2)) := hS.c 2 (zD rfl); go_simp <;> with_reducible rfl) zH ?_
 simp only [Act.put, zA, zB, zC]
 refine zT 5 rfl (by kernel_rfl) (fun _ _ _ => id) rfl (fun _ _ => by go_simp <;> with_reducible rfl) zH ?_
 simp only [Act.put, zA, zB, zC]
 refine zT 6 rfl (by kernel_rfl) (fun _ _ _ => id) rfl (fun _ _ => by go_simp <;> with_reducible rfl) zH ?_
 simp only [Act.put, zA, zB, zC]
 rw [IntWalk.i64_in 2 (by omega)]
 refine zT 7 rfl (by kernel_rfl) (fun _ _ _ => id) rfl (fun _ _ => by go_simp <;> with_reducible rfl) zH ?_
 simp only [Act.put, zA, zB, zC]
 refine zT 8 rfl (by kernel_rfl) (fun _ _ _ => id) rfl (fun _ _ => by go_simp <;> with_reducible rfl) zH ?_
 simp only [Act.put, zA, zB, zC]
 refine zT 9 rfl (by kernel_rfl) (fun _ _ _ => id) rfl (fun wx hS => by have hc9 : wx.cell? ⟨w.heap.size + 1, 9, none⟩ = some (.int .i64 (g 9)) := hS.c 9 (zD rfl); go_simp <;> with_reducible rfl) zH ?_
 simp only [Act.put, zA, zB, zC]
 refine zT 10 rfl (by kernel_rfl) (fun _ _ _ => id) rfl (fun _ _ => by go_simp <;> with_reducible rfl) zH ?_
 simp only [Act.put, zA, zB, zC]
 refine zT 11 rfl (by kernel_rfl) (fun _ _ _ => id) rfl (fun _ _ => by go_simp <;> with_reducible rfl) zH ?_
 simp only [Act.put, zA, zB, zC]
 refine wpAnyH_done (by kernel_rfl) ?_ _
 clear zH
 go_wp2_with fail
 refine (Mul_any b false (g 2) u _ BF_14.drew).mono ?_
 rintro e w15 ⟨rfl, f15, k15⟩
 rw [T3.h1] at f15 ⊢
 dsimp only at f15 ⊢
 have K15 : Kept b w w15 := Kept.trans K14.drew k15
 have B0_15 := B0_14.drew.kept k15 (zG y1_BF)
 have B1_15 := B1_14.drew.kept k15 (zG y2_BF)
 have z15 := B1_15.lies
 clear K14 BF_14 B0_14 B1_14 k15
 go_wp2_with fail
 refine (Mul_any b false (g 9) v _ f15).mono ?_
 rintro e w16 ⟨rfl, f16, k16⟩
 rw [T3.h2] at f16 ⊢
 dsimp only at f16 ⊢
 have K16 := Kept.trans K15 k16
 have B0_16 := B0_15.kept k16 (zG y1_BF)
 have B1_16 := B1_15.kept k16 (zG y2_BF)
 have z16 := B1_16.lies
 clear K15 f15 B0_15 B1_15 k16
 go_wp2_with fail
 refine (Sub_any b false T3.v1 T3.v2 _ f16).mono ?_
 rintro e w17 ⟨rfl, f17, k17⟩
 rw [T3.h3] at f17 ⊢
 dsimp only at f17 ⊢
 have K17 := Kept.trans K16 k17
 have B0_17 := B0_16.kept k17 (zG y1_BF)
 have B1_17 := B1_16.kept k17 (zG y2_BF)
 have z17 := B1_17.lies
 clear K16 f16 B0_16 B1_16 k17
 have c22_B1_3 : w17.cell? ⟨w.heap.size + 1, 3, none⟩ = some (.int .i64 0) := B1_17.c 3 (zD rfl)
 have g22_B1_3 := B1_17.f 3 (zD rfl)
 go_wp2_with fail
 refine (Mul_any b false (g 9) u _ (f17.new (w.heap.size + 1) 3 (zL y2_BF) (.int .i64 (g 3)))).mono ?_
 rintro e w18 ⟨rfl, f18, k18⟩
 rw [T3.h4] at f18 ⊢
 dsimp only at f18 ⊢
 have K18 : Kept b w w18 := Kept.trans (K17.new _ _ (by omega) _) k18
 have B0_18 := (B0_17.new (w.heap.size + 1) 3 (zL y2_B0) (.int .i64 (g 3))).kept k18 (zG y1_BF)
 have B1_18 := (B1_17.put 3 (zD rfl) (.int .i64 (g 3)) [.int .i64 1099511627776, .int .i64 (g 1), .int .i64 (g 2), .int .i64 (g 3), .int .i64 0, .int .i64 0, .int .i64 0, .int .i64 0, .int .i64 (g 8), .int .i64 (g 9), .int .i64 0, .int .i64 0, .int .i64 0, .int .i64 0] rfl).kept k18 (zG y2_BF)
 have z18 := B1_18.lies
 clear c22_B1_3 g22_B1_3 K17 f17 B0_17 B1_17 k18
 go_wp2_with fail
 refine (Mul_any b false (g 2) v _ f18).mono ?_
 rintro e w19 ⟨rfl, f19, k19⟩
 rw [T3.h5] at f19 ⊢
 dsimp only at f19 ⊢
 have K19 := Kept.trans K18 k19
 have B0_19 := B0_18.kept k19 (zG y1_BF)
 have B1_19 := B1_18.kept k19 (zG y2_BF)
 have z19 := B1_19.lies
 clear K18 f18 B0_18 B1_18 k19
 go_wp2_with fail
 refine (Add_any b false T3.v4 T3.v5 _ f19).mono ?_
 rintro e w20 ⟨rfl, f20, k20⟩
 rw [T3.h6] at f20 ⊢
 dsimp only at f20 ⊢
 have K20 := Kept.trans K19 k20
 have B0_20 := B0_19.kept k20 (zG y1_BF)
 have B1_20 := B1_19.kept k20 (zG y2_BF)
 have z20 := B1_20.lies
 clear K19 f19 B0_19 B1_19 k20
 have c25_B1_10 : w20.cell? ⟨w.heap.size + 1, 10, none⟩ = some (.int .i64 0) := B1_20.c 10 (zD rfl)
 have g25_B1_10 := B1_20.f 10 (zD rfl)
 go_wp2_with fail
 clear c25_B1_10 g25_B1_10
 refine rounds_letter (S := fun w' => Kept b w w' ∧ Fl b false w' ∧ Arr w.heap.size [.int .i64 0, .int .i64 0, .int .i64 0, .int .i64 0, .int .i64 0, .int .i64 0, .int .i64 0, .int .i64 0, .int .i64 0, .int .i64 0, .int .i64 0, .int .i64 0, .int .i64 0, .int .i64 0] w' ∧ Arr (w.heap.size + 1) [.int .i64 1099511627776, .int .i64 (g 1), .int .i64 (g 2), .int .i64 (g 3), .int .i64 0, .int .i64 0, .int .i64 0, .int .i64 0, .int .i64 (g 8), .int .i64 (g 9), .int .i64 (g 10), .int .i64 0, .int .i64 0, .int .i64 0] w') ⟨(K20.new _ _ (by omega) _), (f20.new (w.heap.size + 1) 10 (zL y2_BF) (.int .i64 (g 10))), (B0_20.new (w.heap.size + 1) 10 (zL y2_B0) (.int .i64 (g 10))), (B1_20.put 10 (zD rfl) (.int .i64 (g 10)) [.int .i64 1099511627776, .int .i64 (g 1), .int .i64 (g 2), .int .i64 (g 3), .int .i64 0, .int .i64 0, .int .i64 0, .int .i64 0, .int .i64 (g 8), .int .i64 (g 9), .int .i64 (g 10), .int .i64 0, .int .i64 0, .int .i64 0] rfl)⟩ ?_
 rintro w21 ⟨K21, BF_21, B0_21, B1_21⟩
 have z21 := B1_21.lies
 clear K20 f20 B0_20 B1_20
 rw [rounds_succ]
 go_wp2_with fail
 refine wp_region_held_drew (S := fun w' => Arr (w.heap.size + 1) [.int .i64 1099511627776, .int .i64 (g 1), .int .i64 (g 2), .int .i64 (g 3), .int .i64 0, .int .i64 0, .int .i64 0, .int .i64 0, .int .i64 (g 8), .int .i64 (g 9), .int .i64 (g 10), .int .i64 0, .int .i64 0, .int .i64 0] w') (by kernel_rfl) B1_21.drew (fun zH => ?_)
 refine zT 0 rfl (by kernel_rfl) (fun _ _ _ => id) rfl (fun _ _ => by go_simp <;> with_reducible rfl) zH ?_
 simp only [Act.put, zA, zB, zC]
 refine zT 1 rfl (by kernel_rfl) (fun _ _ _ => id) rfl (fun _ _ => by go_simp <;> with_reducible rfl) zH ?_
 simp only [Act.put, zA, zB, zC]
 rw [IntWalk.i64_in 3 (by omega)]
 refine zT 2 rfl (by kernel_rfl) (fun _ _ _ => id) rfl (fun _ _ => by go_simp <;> with_reducible rfl) zH ?_
 simp only [Act.put, zA, zB, zC]
 refine zT 3 rfl (by kernel_rfl) (fun _ _ _ => id) rfl (fun _ _ => by go_simp <;> with_reducible rfl) zH ?_
 simp only [Act.put, zA, zB, zC]
 refine zT 4 rfl (by kernel_rfl) (fun _ _ _ => id) rfl (fun wx hS => by have hc3 : wx.cell? ⟨w.heap.size + 1, 3, none⟩ = some (.int .i64 (g 3)) := hS.c 3 (zD rfl); go_simp <;> with_reducible rfl) zH ?_
 simp only [Act.put, zA, zB, zC]
 refine zT 5 rfl (by kernel_rfl) (fun _ _ _ => id) rfl (fun _ _ => by go_simp <;> with_reducible rfl) zH ?_
 simp only [Act.put, zA, zB, zC]
 refine zT 6 rfl (by kernel_rfl) (fun _ _ _ => id) rfl (fun _ _ => by go_simp <;> with_reducible rfl) zH ?_
 simp only [Act.put, zA, zB, zC]
 rw [IntWalk.i64_in 3 (by omega)]
 refine zT 7 rfl (by kernel_rfl) (fun _ _ _ => id) rfl (fun _ _ => by go_simp <;> with_reducible rfl) zH ?_
 simp only [Act.put, zA, zB, zC]
 refine zT 8 rfl (by kernel_rfl) (fun _ _ _ => id) rfl (fun _ _ => by go_simp <;> with_reducible rfl) zH ?_
 simp only [Act.put, zA, zB, zC]
 refine zT 9 rfl (by kernel_rfl) (fun _ _ _ => id) rfl (fun wx hS => by have hc10 : wx.cell? ⟨w.heap.size + 1, 10, none⟩ = some (.int .i64 (g 10)) := hS.c 10 (zD rfl); go_simp <;> with_reducible rfl) zH ?_
 simp only [Act.put, zA, zB, zC]
 refine zT 10 rfl (by kernel_rfl) (fun _ _ _ => id) rfl (fun _ _ => by go_simp <;> with_reducible rfl) zH ?_
 simp only [Act.put, zA, zB, zC]
 refine zT 11 rfl (by kernel_rfl) (fun _ _ _ => id) rfl (fun _ _ => by go_simp <;> with_reducible rfl) zH ?_
 simp only [Act.put, zA, zB, zC]
 refine wpAnyH_done (by kernel_rfl) ?_ _
 clear zH
 go_wp2_with fail
 refine (Mul_any b false (g 3) u _ BF_21.drew).mono ?_
 rintro e w22 ⟨rfl, f22, k22⟩
 rw [T4.h1] at f22 ⊢
 dsimp only at f22 ⊢
 have K22 : Kept b w w22 := Kept.trans K21.drew k22
 have B0_22 := B0_21.drew.kept k22 (zG y1_BF)
 have B1_22 := B1_21.drew.kept k22 (zG y2_BF)
 have z22 := B1_22.lies
 clear K21 BF_21 B0_21 B1_21 k22
 go_wp2_with fail
 refine (Mul_any b false (g 10) v _ f22).mono ?_
 rintro e w23 ⟨rfl, f23, k23⟩
 rw [T4.h2] at f23 ⊢
 dsimp only at f23 ⊢
 have K23 := Kept.trans K22 k23
 have B0_23 := B0_22.kept k23 (zG y1_BF)
 have B1_23 := B1_22.kept k23 (zG y2_BF)
 have z23 := B1_23.lies
 clear K22 f22 B0_22 B1_22 k23
 go_wp2_with fail
 refine (Sub_any b false T4.v1 T4.v2 _ f23).mono ?_
 rintro e w24 ⟨rfl, f24, k24⟩
 rw [T4.h3] at f24 ⊢
 dsimp only at f24 ⊢
 have K24 := Kept.trans K23 k24
 have B0_24 := B0_23.kept k24 (zG y1_BF)
 have B1_24 := B1_23.kept k24 (zG y2_BF)
 have z24 := B1_24.lies
 clear K23 f23 B0_23 B1_23 k24
 have c30_B1_4 : w24.cell? ⟨w.heap.size + 1, 4, none⟩ = some (.int .i64 0) := B1_24.c 4 (zD rfl)
 have g30_B1_4 := B1_24.f 4 (zD rfl)
 go_wp2_with fail
 refine (Mul_any b false (g 10) u _ (f24.new (w.heap.size + 1) 4 (zL y2_BF) (.int .i64 (g 4)))).mono ?_
 rintro e w25 ⟨rfl, f25, k25⟩
 rw [T4.h4] at f25 ⊢
 dsimp only at f25 ⊢
 have K25 : Kept b w w25 := Kept.trans (K24.new _ _ (by omega) _) k25
 have B0_25 := (B0_24.new (w.heap.size + 1) 4 (zL y2_B0) (.int .i64 (g 4))).kept k25 (zG y1_BF)
 have B1_25 := (B1_24.put 4 (zD rfl) (.int .i64 (g 4)) [.int .i64 1099511627776, .int .i64 (g 1), .int .i64 (g 2), .int .i64 (g 3), .int .i64 (g 4), .int .i64 0, .int .i64 0, .int .i64 0, .int .i64 (g 8), .int .i64 (g 9), .int .i64 (g 10), .int .i64 0, .int .i64 0, .int .i64 0] rfl).kept k25 (zG y2_BF)
 have z25 := B1_25.lies
 clear c30_B1_4 g30_B1_4 K24 f24 B0_24 B1_24 k25
 go_wp2_with fail
 refine (Mul_any b false (g 3) v _ f25).mono ?_
 rintro e w26 ⟨rfl, f26, k26⟩
 rw [T4.h5] at f26 ⊢
 dsimp only at f26 ⊢
 have K26 := Kept.trans K25 k26
 have B0_26 := B0_25.kept k26 (zG y1_BF)
 have B1_26 := B1_25.kept k26 (zG y2_BF)
 have z26 := B1_26.lies
 clear K25 f25 B0_25 B1_25 k26
 go_wp2_with fail
 refine (Add_any b false T4.v4 T4.v5 _ f26).mono ?_
 rintro e w27 ⟨rfl, f27, k27⟩
 rw [T4.h6] at f27 ⊢
 dsimp only at f27 ⊢
 have K27 := Kept.trans K26 k27
 have B0_27 := B0_26.kept k27 (zG y1_BF)
 have B1_27 := B1_26.kept k27 (zG y2_BF)
 have z27 := B1_27.lies
 clear K26 f26 B0_26 B1_26 k27
 have c33_B1_11 : w27.cell? ⟨w.heap.size + 1, 11, none⟩ = some (.int .i64 0) := B1_27.c 11 (zD rfl)
 have g33_B1_11 := B1_27.f 11 (zD rfl)
 go_wp2_with fail
 clear c33_B1_11 g33_B1_11
 refine rounds_letter (S := fun w' => Kept b w w' ∧ Fl b false w' ∧ Arr w.heap.size [.int .i64 0, .int .i64 0, .int .i64 0, .int .i64 0, .int .i64 0, .int .i64 0, .int .i64 0, .int .i64 0, .int .i64 0, .int .i64 0, .int .i64 0, .int .i64 0, .int .i64 0, .int .i64 0] w' ∧ Arr (w.heap.size + 1) [.int .i64 1099511627776, .int .i64 (g 1), .int .i64 (g 2), .int .i64 (g 3), .int .i64 (g 4), .int .i64 0, .int .i64 0, .int .i64 0, .int .i64 (g 8), .int .i64 (g 9), .int .i64 (g 10), .int .i64 (g 11), .int .i64 0, .int .i64 0] w') ⟨(K27.new _ _ (by omega) _), (f27.new (w.heap.size + 1) 11 (zL y2_BF) (.int .i64 (g 11))), (B0_27.new (w.heap.size + 1) 11 (zL y2_B0) (.int .i64 (g 11))), (B1_27.put 11 (zD rfl) (.int .i64 (g 11)) [.int .i64 1099511627776, .int .i64 (g 1), .int .i64 (g 2), .int .i64 (g 3), .int .i64 (g 4), .int .i64 0, .int .i64 0, .int .i64 0, .int .i64 (g 8), .int .i64 (g 9), .int .i64 (g 10), .int .i64 (g 11), .int .i64 0, .int .i64 0] rfl)⟩ ?_
 rintro w28 ⟨K28, BF_28, B0_28, B1_28⟩
 have z28 := B1_28.lies
 clear K27 f27 B0_27 B1_27
 rw [rounds_succ]
 go_wp2_with fail
 refine wp_region_held_drew (S := fun w' => Arr (w.heap.size + 1) [.int .i64 1099511627776, .int .i64 (g 1), .int .i64 (g 2), .int .i64 (g 3), .int .i64 (g 4), .int .i64 0, .int .i64 0, .int .i64 0, .int .i64 (g 8), .int .i64 (g 9), .int .i64 (g 10), .int .i64 (g 11), .int .i64 0, .int .i64 0] w') (by kernel_rfl) B1_28.drew (fun zH => ?_)
 refine zT 0 rfl (by kernel_rfl) (fun _ _ _ => id) rfl (fun _ _ => by go_simp <;> with_reducible rfl) zH ?_
 simp only [Act.put, zA, zB, zC]
 refine zT 1 rfl (by kernel_rfl) (fun _ _ _ => id) rfl (fun _ _ => by go_simp <;> with_reducible rfl) zH ?_
 simp only [Act.put, zA, zB, zC]
 rw [IntWalk.i64_in 4 (by omega)]
 refine zT 2 rfl (by kernel_rfl) (fun _ _ _ => id) rfl (fun _ _ => by go_simp <;> with_reducible rfl) zH ?_
 simp only [Act.put, zA, zB, zC]
 refine zT 3 rfl (by kernel_rfl) (fun _ _ _ => id) rfl (fun _ _ => by go_simp <;> with_reducible rfl) zH ?_
 simp only [Act.put, zA, zB, zC]
 refine zT 4 rfl (by kernel_rfl) (fun _ _ _ => id) rfl (fun wx hS => by have hc4 : wx.cell? ⟨w.heap.size + 1, 4, none⟩ = some (.int .i64 (g 4)) := hS.c 4 (zD rfl); go_simp <;> with_reducible rfl) zH ?_
 simp only [Act.put, zA, zB, zC]
 refine zT 5 rfl (by kernel_rfl) (fun _ _ _ => id) rfl (fun _ _ => by go_simp <;> with_reducible rfl) zH ?_
 simp only [Act.put, zA, zB, zC]
 refine zT 6 rfl (by kernel_rfl) (fun _ _ _ => id) rfl (fun _ _ => by go_simp <;> with_reducible rfl) zH ?_
 simp only [Act.put, zA, zB, zC]
 rw [IntWalk.i64_in 4 (by omega)]
 refine zT 7 rfl (by kernel_rfl) (fun _ _ _ => id) rfl (fun _ _ => by go_simp <;> with_reducible rfl) zH ?_
 simp only [Act.put, zA, zB, zC]
 refine zT 8 rfl (by kernel_rfl) (fun _ _ _ => id) rfl (fun _ _ => by go_simp <;> with_reducible rfl) zH ?_
 simp only [Act.put, zA, zB, zC]
 refine zT 9 rfl (by kernel_rfl) (fun _ _ _ => id) rfl (fun wx hS => by have hc11 : wx.cell? ⟨w.heap.size + 1, 11, none⟩ = some (.int .i64 (g 11)) := hS.c 11 (zD rfl); go_simp <;> with_reducible rfl) zH ?_
 simp only [Act.put, zA, zB, zC]
 refine zT 10 rfl (by kernel_rfl) (fun _ _ _ => id) rfl (fun _ _ => by go_simp <;> with_reducible rfl) zH ?_
 simp only [Act.put, zA, zB, zC]
 refine zT 11 rfl (by kernel_rfl) (fun _ _ _ => id) rfl (fun _ _ => by go_simp <;> with_reducible rfl) zH ?_
 simp only [Act.put, zA, zB, zC]
 refine wpAnyH_done (by kernel_rfl) ?_ _
 clear zH
 go_wp2_with fail
 refine (Mul_any b false (g 4) u _ BF_28.drew).mono ?_
 rintro e w29 ⟨rfl, f29, k29⟩
 rw [T5.h1] at f29 ⊢
 dsimp only at f29 ⊢
 have K29 : Kept b w w29 := Kept.trans K28.drew k29
 have B0_29 := B0_28.drew.kept k29 (zG y1_BF)
 have B1_29 := B1_28.drew.kept k29 (zG y2_BF)
 have z29 := B1_29.lies
 clear K28 BF_28 B0_28 B1_28 k29
 go_wp2_with fail
 refine (Mul_any b false (g 11) v _ f29).mono ?_
 rintro e w30 ⟨rfl, f30, k30⟩
 rw [T5.h2] at f30 ⊢
 dsimp only at f30 ⊢
 have K30 := Kept.trans K29 k30
 have B0_30 := B0_29.kept k30 (zG y1_BF)
 have B1_30 := B1_29.kept k30 (zG y2_BF)
 have z30 := B1_30.lies
 clear K29 f29 B0_29 B1_29 k30
 go_wp2_with fail
 refine (Sub_any b false T5.v1 T5.v2 _ f30).mono ?_
 rintro e w31 ⟨rfl, f31, k31⟩
 rw [T5.h3] at f31 ⊢
 dsimp only at f31 ⊢
 have K31 := Kept.trans K30 k31
 have B0_31 := B0_30.kept k31 (zG y1_BF)
 have B1_31 := B1_30.kept k31 (zG y2_BF)
 have z31 := B1_31.lies
 clear K30 f30 B0_30 B1_30 k31
 have c38_B1_5 : w31.cell? ⟨w.heap.size + 1, 5, none⟩ = some (.int .i64 0) := B1_31.c 5 (zD rfl)
 have g38_B1_5 := B1_31.f 5 (zD rfl)
 go_wp2_with fail
 refine (Mul_any b false (g 11) u _ (f31.new (w.heap.size + 1) 5 (zL y2_BF) (.int .i64 (g 5)))).mono ?_
 rintro e w32 ⟨rfl, f32, k32⟩
 rw [T5.h4] at f32 ⊢
 dsimp only at f32 ⊢
 have K32 : Kept b w w32 := Kept.trans (K31.new _ _ (by omega) _) k32
 have B0_32 := (B0_31.new (w.heap.size + 1) 5 (zL y2_B0) (.int .i64 (g 5))).kept k32 (zG y1_BF)
 have B1_32 := (B1_31.put 5 (zD rfl) (.int .i64 (g 5)) [.int .i64 1099511627776, .int .i64 (g 1), .int .i64 (g 2), .int .i64 (g 3), .int .i64 (g 4), .int .i64 (g 5), .int .i64 0, .int .i64 0, .int .i64 (g 8), .int .i64 (g 9), .int .i64 (g 10), .int .i64 (g 11), .int .i64 0, .int .i64 0] rfl).kept k32 (zG y2_BF)
 have z32 := B1_32.lies
 clear c38_B1_5 g38_B1_5 K31 f31 B0_31 B1_31 k32
 go_wp2_with fail
 refine (Mul_any b false (g 4) v _ f32).mono ?_
 rintro e w33 ⟨rfl, f33, k33⟩
 rw [T5.h5] at f33 ⊢
 dsimp only at f33 ⊢
 have K33 := Kept.trans K32 k33
 have B0_33 := B0_32.kept k33 (zG y1_BF)
 have B1_33 := B1_32.kept k33 (zG y2_BF)
 have z33 := B1_33.lies
 clear K32 f32 B0_32 B1_32 k33
 go_wp2_with fail
 refine (Add_any b false T5.v4 T5.v5 _ f33).mono ?_
 rintro e w34 ⟨rfl, f34, k34⟩
 rw [T5.h6] at f34 ⊢
 dsimp only at f34 ⊢
 have K34 := Kept.trans K33 k34
 have B0_34 := B0_33.kept k34 (zG y1_BF)
 have B1_34 := B1_33.kept k34 (zG y2_BF)
 have z34 := B1_34.lies
 clear K33 f33 B0_33 B1_33 k34
 have c41_B1_12 : w34.cell? ⟨w.heap.size + 1, 12, none⟩ = some (.int .i64 0) := B1_34.c 12 (zD rfl)
 have g41_B1_12 := B1_34.f 12 (zD rfl)
 go_wp2_with fail
 clear c41_B1_12 g41_B1_12
 refine rounds_letter (S := fun w' => Kept b w w' ∧ Fl b false w' ∧ Arr w.heap.size [.int .i64 0, .int .i64 0, .int .i64 0, .int .i64 0, .int .i64 0, .int .i64 0, .int .i64 0, .int .i64 0, .int .i64 0, .int .i64 0, .int .i64 0, .int .i64 0, .int .i64 0, .int .i64 0] w' ∧ Arr (w.heap.size + 1) [.int .i64 1099511627776, .int .i64 (g 1), .int .i64 (g 2), .int .i64 (g 3), .int .i64 (g 4), .int .i64 (g 5), .int .i64 0, .int .i64 0, .int .i64 (g 8), .int .i64 (g 9), .int .i64 (g 10), .int .i64 (g 11), .int .i64 (g 12), .int .i64 0] w') ⟨(K34.new _ _ (by omega) _), (f34.new (w.heap.size + 1) 12 (zL y2_BF) (.int .i64 (g 12))), (B0_34.new (w.heap.size + 1) 12 (zL y2_B0) (.int .i64 (g 12))), (B1_34.put 12 (zD rfl) (.int .i64 (g 12)) [.int .i64 1099511627776, .int .i64 (g 1), .int .i64 (g 2), .int .i64 (g 3), .int .i64 (g 4), .int .i64 (g 5), .int .i64 0, .int .i64 0, .int .i64 (g 8), .int .i64 (g 9), .int .i64 (g 10), .int .i64 (g 11), .int .i64 (g 12), .int .i64 0] rfl)⟩ ?_
 rintro w35 ⟨K35, BF_35, B0_35, B1_35⟩
 have z35 := B1_35.lies
 clear K34 f34 B0_34 B1_34
 rw [rounds_succ]
 go_wp2_with fail
 refine wp_region_held_drew (S := fun w' => Arr (w.heap.size + 1) [.int .i64 1099511627776, .int .i64 (g 1), .int .i64 (g 2), .int .i64 (g 3), .int .i64 (g 4), .int .i64 (g 5), .int .i64 0, .int .i64 0, .int .i64 (g 8), .int .i64 (g 9), .int .i64 (g 10), .int .i64 (g 11), .int .i64 (g 12), .int .i64 0] w') (by kernel_rfl) B1_35.drew (fun zH => ?_)
 refine zT 0 rfl (by kernel_rfl) (fun _ _ _ => id) rfl (fun _ _ => by go_simp <;> with_reducible rfl) zH ?_
 simp only [Act.put, zA, zB, zC]
 refine zT 1 rfl (by kernel_rfl) (fun _ _ _ => id) rfl (fun _ _ => by go_simp <;> with_reducible rfl) zH ?_
 simp only [Act.put, zA, zB, zC]
 rw [IntWalk.i64_in 5 (by omega)]
 refine zT 2 rfl (by kernel_rfl) (fun _ _ _ => id) rfl (fun _ _ => by go_simp <;> with_reducible rfl) zH ?_
 simp only [Act.put, zA, zB, zC]
 refine zT 3 rfl (by kernel_rfl) (fun _ _ _ => id) rfl (fun _ _ => by go_simp <;> with_reducible rfl) zH ?_
 simp only [Act.put, zA, zB, zC]
 refine zT 4 rfl (by kernel_rfl) (fun _ _ _ => id) rfl (fun wx hS => by have hc5 : wx.cell? ⟨w.heap.size + 1, 5, none⟩ = some (.int .i64 (g 5)) := hS.c 5 (zD rfl); go_simp <;> with_reducible rfl) zH ?_
 simp only [Act.put, zA, zB, zC]
 refine zT 5 rfl (by kernel_rfl) (fun _ _ _ => id) rfl (fun _ _ => by go_simp <;> with_reducible rfl) zH ?_
 simp only [Act.put, zA, zB, zC]
 refine zT 6 rfl (by kernel_rfl) (fun _ _ _ => id) rfl (fun _ _ => by go_simp <;> with_reducible rfl) zH ?_
 simp only [Act.put, zA, zB, zC]
 rw [IntWalk.i64_in 5 (by omega)]
 refine zT 7 rfl (by kernel_rfl) (fun _ _ _ => id) rfl (fun _ _ => by go_simp <;> with_reducible rfl) zH ?_
 simp only [Act.put, zA, zB, zC]
 refine zT 8 rfl (by kernel_rfl) (fun _ _ _ => id) rfl (fun _ _ => by go_simp <;> with_reducible rfl) zH ?_
 simp only [Act.put, zA, zB, zC]
 refine zT 9 rfl (by kernel_rfl) (fun _ _ _ => id) rfl (fun wx hS => by have hc12 : wx.cell? ⟨w.heap.size + 1, 12, none⟩ = some (.int .i64 (g 12)) := hS.c 12 (zD rfl); go_simp <;> with_reducible rfl) zH ?_
 simp only [Act.put, zA, zB, zC]
 refine zT 10 rfl (by kernel_rfl) (fun _ _ _ => id) rfl (fun _ _ => by go_simp <;> with_reducible rfl) zH ?_
 simp only [Act.put, zA, zB, zC]
 refine zT 11 rfl (by kernel_rfl) (fun _ _ _ => id) rfl (fun _ _ => by go_simp <;> with_reducible rfl) zH ?_
 simp only [Act.put, zA, zB, zC]
 refine wpAnyH_done (by kernel_rfl) ?_ _
 clear zH
 go_wp2_with fail
 refine (Mul_any b false (g 5) u _ BF_35.drew).mono ?_
 rintro e w36 ⟨rfl, f36, k36⟩
 rw [T6.h1] at f36 ⊢
 dsimp only at f36 ⊢
 have K36 : Kept b w w36 := Kept.trans K35.drew k36
 have B0_36 := B0_35.drew.kept k36 (zG y1_BF)
 have B1_36 := B1_35.drew.kept k36 (zG y2_BF)
 have z36 := B1_36.lies
 clear K35 BF_35 B0_35 B1_35 k36
 go_wp2_with fail
 refine (Mul_any b false (g 12) v _ f36).mono ?_
 rintro e w37 ⟨rfl, f37, k37⟩
 rw [T6.h2] at f37 ⊢
 dsimp only at f37 ⊢
 have K37 := Kept.trans K36 k37
 have B0_37 := B0_36.kept k37 (zG y1_BF)
 have B1_37 := B1_36.kept k37 (zG y2_BF)
 have z37 := B1_37.lies
 clear K36 f36 B0_36 B1_36 k37
 go_wp2_with fail
 refine (Sub_any b false T6.v1 T6.v2 _ f37).mono ?_
 rintro e w38 ⟨rfl, f38, k38⟩
 rw [T6.h3] at f38 ⊢
 dsimp only at f38 ⊢
 have K38 := Kept.trans K37 k38
 have B0_38 := B0_37.kept k38 (zG y1_BF)
 have B1_38 := B1_37.kept k38 (zG y2_BF)
 have z38 := B1_38.lies
 clear K37 f37 B0_37 B1_37 k38
 have c46_B1_6 : w38.cell? ⟨w.heap.size + 1, 6, none⟩ = some (.int .i64 0) := B1_38.c 6 (zD rfl)
 have g46_B1_6 := B1_38.f 6 (zD rfl)
 go_wp2_with fail
 refine (Mul_any b false (g 12) u _ (f38.new (w.heap.size + 1) 6 (zL y2_BF) (.int .i64 (g 6)))).mono ?_
 rintro e w39 ⟨rfl, f39, k39⟩
 rw [T6.h4] at f39 ⊢
 dsimp only at f39 ⊢
 have K39 : Kept b w w39 := Kept.trans (K38.new _ _ (by omega) _) k39
 have B0_39 := (B0_38.new (w.heap.size + 1) 6 (zL y2_B0) (.int .i64 (g 6))).kept k39 (zG y1_BF)
 have B1_39 := (B1_38.put 6 (zD rfl) (.int .i64 (g 6)) [.int .i64 1099511627776, .int .i64 (g 1), .int .i64 (g 2), .int .i64 (g 3), .int .i64 (g 4), .int .i64 (g 5), .int .i64 (g 6), .int .i64 0, .int .i64 (g 8), .int .i64 (g 9), .int .i64 (g 10), .int .i64 (g 11), .int .i64 (g 12), .int .i64 0] rfl).kept k39 (zG y2_BF)
 have z39 := B1_39.lies
 clear c46_B1_6 g46_B1_6 K38 f38 B0_38 B1_38 k39
 go_wp2_with fail
 refine (Mul_any b false (g 5) v _ f39).mono ?_
 rintro e w40 ⟨rfl, f40, k40⟩
 rw [T6.h5] at f40 ⊢
 dsimp only at f40 ⊢
 have K40 := Kept.trans K39 k40
 have B0_40 := B0_39.kept k40 (zG y1_BF)
 have B1_40 := B1_39.kept k40 (zG y2_BF)
 have z40 := B1_40.lies
 clear K39 f39 B0_39 B1_39 k40
 go_wp2_with fail
 refine (Add_any b false T6.v4 T6.v5 _ f40).mono ?_
 rintro e w41 ⟨rfl, f41, k41⟩
 rw [T6.h6] at f41 ⊢
 dsimp only at f41 ⊢
 have K41 := Kept.trans K40 k41
 have B0_41 := B0_40.kept k41 (zG y1_BF)
 have B1_41 := B1_40.kept k41 (zG y2_BF)
 have z41 := B1_41.lies
 clear K40 f40 B0_40 B1_40 k41
 have c49_B1_13 : w41.cell? ⟨w.heap.size + 1, 13, none⟩ = some (.int .i64 0) := B1_41.c 13 (zD rfl)
 have g49_B1_13 := B1_41.f 13 (zD rfl)
 go_wp2_with fail
 clear c49_B1_13 g49_B1_13
 refine rounds_letter (S := fun w' => Kept b w w' ∧ Fl b false w' ∧ Arr w.heap.size [.int .i64 0, .int .i64 0, .int .i64 0, .int .i64 0, .int .i64 0, .int .i64 0, .int .i64 0, .int .i64 0, .int .i64 0, .int .i64 0, .int .i64 0, .int .i64 0, .int .i64 0, .int .i64 0] w' ∧ Arr (w.heap.size + 1) [.int .i64 1099511627776, .int .i64 (g 1), .int .i64 (g 2), .int .i64 (g 3), .int .i64 (g 4), .int .i64 (g 5), .int .i64 (g 6), .int .i64 0, .int .i64 (g 8), .int .i64 (g 9), .int .i64 (g 10), .int .i64 (g 11), .int .i64 (g 12), .int .i64 (g 13)] w') ⟨(K41.new _ _ (by omega) _), (f41.new (w.heap.size + 1) 13 (zL y2_BF) (.int .i64 (g 13))), (B0_41.new (w.heap.size + 1) 13 (zL y2_B0) (.int .i64 (g 13))), (B1_41.put 13 (zD rfl) (.int .i64 (g 13)) [.int .i64 1099511627776, .int .i64 (g 1), .int .i64 (g 2), .int .i64 (g 3), .int .i64 (g 4), .int .i64 (g 5), .int .i64 (g 6), .int .i64 0, .int .i64 (g 8), .int .i64 (g 9), .int .i64 (g 10), .int .i64 (g 11), .int .i64 (g 12), .int .i64 (g 13)] rfl)⟩ ?_
 rintro w42 ⟨K42, BF_42, B0_42, B1_42⟩
 have z42 := B1_42.lies
 clear K41 f41 B0_41 B1_41
 rw [rounds_succ]
 have c50_B0_0 : w42.cell? ⟨w.heap.size, 0, none⟩ = some (.int .i64 0) := B0_42.c 0 (zD rfl)
 have c50_B0_1 : w42.cell? ⟨w.heap.size, 1, none⟩ = some (.int .i64 0) := B0_42.c 1 (zD rfl)
 have c50_B0_10 : w42.cell? ⟨w.heap.size, 10, none⟩ = some (.int .i64 0) := B0_42.c 10 (zD rfl)
 have c50_B0_11 : w42.cell? ⟨w.heap.size, 11, none⟩ = some (.int .i64 0) := B0_42.c 11 (zD rfl)
 have c50_B0_12 : w42.cell? ⟨w.heap.size, 12, none⟩ = some (.int .i64 0) := B0_42.c 12 (zD rfl)
 have c50_B0_13 : w42.cell? ⟨w.heap.size, 13, none⟩ = some (.int .i64 0) := B0_42.c 13 (zD rfl)
 have c50_B0_2 : w42.cell? ⟨w.heap.size, 2, none⟩ = some (.int .i64 0) := B0_42.c 2 (zD rfl)
 have c50_B0_3 : w42.cell? ⟨w.heap.size, 3, none⟩ = some (.int .i64 0) := B0_42.c 3 (zD rfl)
 have c50_B0_4 : w42.cell? ⟨w.heap.size, 4, none⟩ = some (.int .i64 0) := B0_42.c 4 (zD rfl)
 have c50_B0_5 : w42.cell? ⟨w.heap.size, 5, none⟩ = some (.int .i64 0) := B0_42.c 5 (zD rfl)
 have c50_B0_6 : w42.cell? ⟨w.heap.size, 6, none⟩ = some (.int .i64 0) := B0_42.c 6 (zD rfl)
 have c50_B0_7 : w42.cell? ⟨w.heap.size, 7, none⟩ = some (.int .i64 0) := B0_42.c 7 (zD rfl)
 have c50_B0_8 : w42.cell? ⟨w.heap.size, 8, none⟩ = some (.int .i64 0) := B0_42.c 8 (zD rfl)
 have c50_B0_9 : w42.cell? ⟨w.heap.size, 9, none⟩ = some (.int .i64 0) := B0_42.c 9 (zD rfl)
 have c50_B1_0 : w42.cell? ⟨w.heap.size + 1, 0, none⟩ = some (.int .i64 1099511627776) := B1_42.c 0 (zD rfl)
 have c50_B1_1 : w42.cell? ⟨w.heap.size + 1, 1, none⟩ = some (.int .i64 (g 1)) := B1_42.c 1 (zD rfl)
 have c50_B1_10 : w42.cell? ⟨w.heap.size + 1, 10, none⟩ = some (.int .i64 (g 10)) := B1_42.c 10 (zD rfl)
 have c50_B1_11 : w42.cell? ⟨w.heap.size + 1, 11, none⟩ = some (.int .i64 (g 11)) := B1_42.c 11 (zD rfl)
 have c50_B1_12 : w42.cell? ⟨w.heap.size + 1, 12, none⟩ = some (.int .i64 (g 12)) := B1_42.c 12 (zD rfl)
 have c50_B1_13 : w42.cell? ⟨w.heap.size + 1, 13, none⟩ = some (.int .i64 (g 13)) := B1_42.c 13 (zD rfl)
 have c50_B1_2 : w42.cell? ⟨w.heap.size + 1, 2, none⟩ = some (.int .i64 (g 2)) := B1_42.c 2 (zD rfl)
 have c50_B1_3 : w42.cell? ⟨w.heap.size + 1, 3, none⟩ = some (.int .i64 (g 3)) := B1_42.c 3 (zD rfl)
 have c50_B1_4 : w42.cell? ⟨w.heap.size + 1, 4, none⟩ = some (.int .i64 (g 4)) := B1_42.c 4 (zD rfl)
 have c50_B1_5 : w42.cell? ⟨w.heap.size + 1, 5, none⟩ = some (.int .i64 (g 5)) := B1_42.c 5 (zD rfl)
 have c50_B1_6 : w42.cell? ⟨w.heap.size + 1, 6, none⟩ = some (.int .i64 (g 6)) := B1_42.c 6 (zD rfl)
 have c50_B1_7 : w42.cell? ⟨w.heap.size + 1, 7, none⟩ = some (.int .i64 0) := B1_42.c 7 (zD rfl)
 have c50_B1_8 : w42.cell? ⟨w.heap.size + 1, 8, none⟩ = some (.int .i64 (g 8)) := B1_42.c 8 (zD rfl)
 have c50_B1_9 : w42.cell? ⟨w.heap.size + 1, 9, none⟩ = some (.int .i64 (g 9)) := B1_42.c 9 (zD rfl)
 have g50_B0_0 := B0_42.f 0 (zD rfl)
 have g50_B0_1 := B0_42.f 1 (zD rfl)
 have g50_B0_10 := B0_42.f 10 (zD rfl)
 have g50_B0_11 := B0_42.f 11 (zD rfl)
 have g50_B0_12 := B0_42.f 12 (zD rfl)
 have g50_B0_13 := B0_42.f 13 (zD rfl)
 have g50_B0_2 := B0_42.f 2 (zD rfl)
 have g50_B0_3 := B0_42.f 3 (zD rfl)
 have g50_B0_4 := B0_42.f 4 (zD rfl)
 have g50_B0_5 := B0_42.f 5 (zD rfl)
 have g50_B0_6 := B0_42.f 6 (zD rfl)
 have g50_B0_7 := B0_42.f 7 (zD rfl)
 have g50_B0_8 := B0_42.f 8 (zD rfl)
 have g50_B0_9 := B0_42.f 9 (zD rfl)
 go_wp2_with (with_reducible refine post_stop ?_)
 refine Stop.mk ?_
 clear c50_B0_0 c50_B0_1 c50_B0_10 c50_B0_11 c50_B0_12 c50_B0_13 c50_B0_2 c50_B0_3 c50_B0_4 c50_B0_5 c50_B0_6 c50_B0_7 c50_B0_8 c50_B0_9 c50_B1_0 c50_B1_1 c50_B1_10 c50_B1_11 c50_B1_12 c50_B1_13 c50_B1_2 c50_B1_3 c50_B1_4 c50_B1_5 c50_B1_6 c50_B1_7 c50_B1_8 c50_B1_9 g50_B0_0 g50_B0_1 g50_B0_10 g50_B0_11 g50_B0_12 g50_B0_13 g50_B0_2 g50_B0_3 g50_B0_4 g50_B0_5 g50_B0_6 g50_B0_7 g50_B0_8 g50_B0_9
 refine bodyPost_ret (v := .agg #[.int .i64 1099511627776, .int .i64 (g 1), .int .i64 (g 2), .int .i64 (g 3), .int .i64 (g 4), .int .i64 (g 5), .int .i64 (g 6), .int .i64 0, .int .i64 (g 8), .int .i64 (g 9), .int .i64 (g 10), .int .i64 (g 11), .int .i64 (g 12), .int .i64 (g 13)]) (results_arr Tryz.results170 ((((((((((((((B0_42.put 0 (zD rfl) (.int .i64 1099511627776) [.int .i64 1099511627776, .int .i64 0, .int .i64 0, .int .i64 0, .int .i64 0, .int .i64 0, .int .i64 0, .int .i64 0, .int .i64 0, .int .i64 0, .int .i64 0, .int .i64 0, .int .i64 0, .int .i64 0] rfl).put 1 (zD rfl) (.int .i64 (g 1)) [.int .i64 1099511627776, .int .i64 (g 1), .int .i64 0, .int .i64 0, .int .i64 0, .int .i64 0, .int .i64 0, .int .i64 0, .int .i64 0, .int .i64 0, .int .i64 0, .int .i64 0, .int .i64 0, .int .i64 0] rfl).put 2 (zD rfl) (.int .i64 (g 2)) [.int .i64 1099511627776, .int .i64 (g 1), .int .i64 (g 2), .int .i64 0, .int .i64 0, .int .i64 0, .int .i64 0, .int .i64 0, .int .i64 0, .int .i64 0, .int .i64 0, .int .i64 0, .int .i64 0, .int .i64 0] rfl).put 3 (zD rfl) (.int .i64 (g 3)) [.int .i64 1099511627776, .int .i64 (g 1), .int .i64 (g 2), .int .i64 (g 3), .int .i64 0, .int .i64 0, .int .i64 0, .int .i64 0, .int .i64 0, .int .i64 0, .int .i64 0, .int .i64 0, .int .i64 0, .int .i64 0] rfl).put 4 (zD rfl) (.int .i64 (g 4)) [.int .i64 1099511627776, .int .i64 (g 1), .int .i64 (g 2), .int .i64 (g 3), .int .i64 (g 4), .int .i64 0, .int .i64 0, .int .i64 0, .int .i64 0, .int .i64 0, .int .i64 0, .int .i64 0, .int .i64 0, .int .i64 0] rfl).put 5 (zD rfl) (.int .i64 (g 5)) [.int .i64 1099511627776, .int .i64 (g 1), .int .i64 (g 2), .int .i64 (g 3), .int .i64 (g 4), .int .i64 (g 5), .int .i64 0, .int .i64 0, .int .i64 0, .int .i64 0, .int .i64 0, .int .i64 0, .int .i64 0, .int .i64 0] rfl).put 6 (zD rfl) (.int .i64 (g 6)) [.int .i64 1099511627776, .int .i64 (g 1), .int .i64 (g 2), .int .i64 (g 3), .int .i64 (g 4), .int .i64 (g 5), .int .i64 (g 6), .int .i64 0, .int .i64 0, .int .i64 0, .int .i64 0, .int .i64 0, .int .i64 0, .int .i64 0] rfl).put 7 (zD rfl) (.int .i64 0) [.int .i64 1099511627776, .int .i64 (g 1), .int .i64 (g 2), .int .i64 (g 3), .int .i64 (g 4), .int .i64 (g 5), .int .i64 (g 6), .int .i64 0, .int .i64 0, .int .i64 0, .int .i64 0, .int .i64 0, .int .i64 0, .int .i64 0] rfl).put 8 (zD rfl) (.int .i64 (g 8)) [.int .i64 1099511627776, .int .i64 (g 1), .int .i64 (g 2), .int .i64 (g 3), .int .i64 (g 4), .int .i64 (g 5), .int .i64 (g 6), .int .i64 0, .int .i64 (g 8), .int .i64 0, .int .i64 0, .int .i64 0, .int .i64 0, .int .i64 0] rfl).put 9 (zD rfl) (.int .i64 (g 9)) [.int .i64 1099511627776, .int .i64 (g 1), .int .i64 (g 2), .int .i64 (g 3), .int .i64 (g 4), .int .i64 (g 5), .int .i64 (g 6), .int .i64 0, .int .i64 (g 8), .int .i64 (g 9), .int .i64 0, .int .i64 0, .int .i64 0, .int .i64 0] rfl).put 10 (zD rfl) (.int .i64 (g 10)) [.int .i64 1099511627776, .int .i64 (g 1), .int .i64 (g 2), .int .i64 (g 3), .int .i64 (g 4), .int .i64 (g 5), .int .i64 (g 6), .int .i64 0, .int .i64 (g 8), .int .i64 (g 9), .int .i64 (g 10), .int .i64 0, .int .i64 0, .int .i64 0] rfl).put 11 (zD rfl) (.int .i64 (g 11)) [.int .i64 1099511627776, .int .i64 (g 1), .int .i64 (g 2), .int .i64 (g 3), .int .i64 (g 4), .int .i64 (g 5), .int .i64 (g 6), .int .i64 0, .int .i64 (g 8), .int .i64 (g 9), .int .i64 (g 10), .int .i64 (g 11), .int .i64 0, .int .i64 0] rfl).put 12 (zD rfl) (.int .i64 (g 12)) [.int .i64 1099511627776, .int .i64 (g 1), .int .i64 (g 2), .int .i64 (g 3), .int .i64 (g 4), .int .i64 (g 5), .int .i64 (g 6), .int .i64 0, .int .i64 (g 8), .int .i64 (g 9), .int .i64 (g 10), .int .i64 (g 11), .int .i64 (g 12), .int .i64 0] rfl).put 13 (zD rfl) (.int .i64 (g 13)) [.int .i64 1099511627776, .int .i64 (g 1), .int .i64 (g 2), .int .i64 (g 3), .int .i64 (g 4), .int .i64 (g 5), .int .i64 (g 6), .int .i64 0, .int .i64 (g 8), .int .i64 (g 9), .int .i64 (g 10), .int .i64 (g 11), .int .i64 (g 12), .int .i64 (g 13)] rfl) rfl (by kernel_rfl) (by kernel_rfl)) rfl ?_
 exact ⟨rfl, ((((((((((((((BF_42.new w.heap.size 0 (zL y1_BF) (.int .i64 1099511627776)).new w.heap.size 1 (zL y1_BF) (.int .i64 (g 1))).new w.heap.size 2 (zL y1_BF) (.int .i64 (g 2))).new w.heap.size 3 (zL y1_BF) (.int .i64 (g 3))).new w.heap.size 4 (zL y1_BF) (.int .i64 (g 4))).new w.heap.size 5 (zL y1_BF) (.int .i64 (g 5))).new w.heap.size 6 (zL y1_BF) (.int .i64 (g 6))).new w.heap.size 7 (zL y1_BF) (.int .i64 0)).new w.heap.size 8 (zL y1_BF) (.int .i64 (g 8))).new w.heap.size 9 (zL y1_BF) (.int .i64 (g 9))).new w.heap.size 10 (zL y1_BF) (.int .i64 (g 10))).new w.heap.size 11 (zL y1_BF) (.int .i64 (g 11))).new w.heap.size 12 (zL y1_BF) (.int .i64 (g 12))).new w.heap.size 13 (zL y1_BF) (.int .i64 (g 13))), ((((((((((((((K42.new _ _ (by omega) _).new _ _ (by omega) _).new _ _ (by omega) _).new _ _ (by omega) _).new _ _ (by omega) _).new _ _ (by omega) _).new _ _ (by omega) _).new _ _ (by omega) _).new _ _ (by omega) _).new _ _ (by omega) _).new _ _ (by omega) _).new _ _ (by omega) _).new _ _ (by omega) _).new _ _ (by omega) _)⟩
theorem rounds_any (b : Nat) (u v : Int) (g : Nat → Int) (w : World) (hw : Fl b false w) (e0 : g 0 = 1099511627776) (e7 : g 7 = 0) (T : ∀ m, m < 6 → Nonempty (WaveT (g m) (g (7 + m)) u v (g (m + 1)) (g (8 + m)))) :
    Calls Tryz.prog 170 #[.pointer (some ⟨b, 0, none⟩), .int .i64 u, .int .i64 v] w fun e w' => e = .returned (.agg #[.int .i64 (g 0), .int .i64 (g 1), .int .i64 (g 2), .int .i64 (g 3), .int .i64 (g 4), .int .i64 (g 5), .int .i64 (g 6), .int .i64 (g 7), .int .i64 (g 8), .int .i64 (g 9), .int .i64 (g 10), .int .i64 (g 11), .int .i64 (g 12), .int .i64 (g 13)]) ∧ Fl b false w' ∧ Kept b w w' := by
 obtain ⟨T1⟩ := T 0 (by decide)
 obtain ⟨T2⟩ := T 1 (by decide)
 obtain ⟨T3⟩ := T 2 (by decide)
 obtain ⟨T4⟩ := T 3 (by decide)
 obtain ⟨T5⟩ := T 4 (by decide)
 obtain ⟨T6⟩ := T 5 (by decide)
 rw [e0, e7] at *
 exact rounds_w b u v g w hw T1 T2 T3 T4 T5 T6
end Go.Proofs.YtbophanlmkbfeaaGreatDoor
