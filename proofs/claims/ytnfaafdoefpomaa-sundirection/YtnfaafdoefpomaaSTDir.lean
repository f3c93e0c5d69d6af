/-
  The walks of the reference's Direction, for the seat Ytnfaafdoefpomaa. (Made by mksun.py.)
-/
import Derived.Test.YtnfaafdoefpomaaSSpec
import Derived.Test.YtnfaafdoefpomaaRSin
import Derived.Test.YtnfaafdoefpomaaRMeth
import Derived.Test.YtnfaafdoefpomaaVMem
import Derived.Test.YtnfaafdoefpomaaCDDays
import Derived.Test.YtnfaafdoefpomaaStop
import Derived.Handy
import Derived.Deep.RegionHeld3
namespace Go.Proofs.Ytnfaafdoefpomaa
open Go.RowKit

set_option maxRecDepth 100000 in
set_option maxHeartbeats 2000000 in
theorem tDir_n1 (b : Nat) (bad : Bool) (t : Int) (w : World) (hw : Fl b bad w) (hn : ¬ (0 ≤ t ∧ t ≤ 157766400000)) :
    Calls Try.prog 9 #[.pointer (some ⟨b, 0, none⟩), .int .i64 t] w fun e w' => e = .returned (.agg #[.int .i64 ((0, 0, 0).1), .int .i64 ((0, 0, 0).2.1), .int .i64 ((0, 0, 0).2.2)]) ∧ Fl b true w' ∧ Kept b w w' := by
  have hl := hw.lies
  go_enter Try.func9, Try.ntmps9
  have y1_BF : b < w.heap.size := hw.lies
  go_wp2_with fail
  refine (dDays_any b bad t _ (hw.alloc _)).mono ?_
  rintro e w1 ⟨rfl, f1, k1⟩
  rw [(cDaysS_out bad hn)] at f1 ⊢
  dsimp only at f1 ⊢
  have K1 : Kept b w w1 := Kept.trans ((Kept.refl b w).al _) k1
  have B0_1 : Arr w.heap.size [.int .i64 0, .int .i64 0, .int .i64 0] w1 := (Arr_at _ _ [.int .i64 0, .int .i64 0, .int .i64 0] _ (by simp)).kept k1 (Nat.ne_of_gt y1_BF)
  have z1 := B0_1.lies
  clear k1
  go_wp2_with fail
  refine (rMul_any b true 18913766030 0 _ f1).mono ?_
  rintro e w2 ⟨rfl, f2, k2⟩
  rw [mulS_true] at f2 ⊢
  dsimp only at f2 ⊢
  have K2 : Kept b w w2 := Kept.trans K1 k2
  have B0_2 : Arr w.heap.size [.int .i64 0, .int .i64 0, .int .i64 0] w2 := B0_1.kept k2 (Nat.ne_of_gt y1_BF)
  have z2 := B0_2.lies
  clear K1 f1 B0_1 k2
  go_wp2_with fail
  refine (rAdd_any b true 6870645337657 0 _ f2).mono ?_
  rintro e w3 ⟨rfl, f3, k3⟩
  rw [addS_true] at f3 ⊢
  dsimp only at f3 ⊢
  have K3 : Kept b w w3 := Kept.trans K2 k3
  have B0_3 : Arr w.heap.size [.int .i64 0, .int .i64 0, .int .i64 0] w3 := B0_2.kept k3 (Nat.ne_of_gt y1_BF)
  have z3 := B0_3.lies
  clear K2 f2 B0_2 k3
  go_wp2_with fail
  refine (rMod_any b true 0 6908435304716 _ f3).mono ?_
  rintro e w4 ⟨rfl, f4, k4⟩
  rw [modS_true] at f4 ⊢
  dsimp only at f4 ⊢
  have K4 : Kept b w w4 := Kept.trans K3 k4
  have B0_4 : Arr w.heap.size [.int .i64 0, .int .i64 0, .int .i64 0] w4 := B0_3.kept k4 (Nat.ne_of_gt y1_BF)
  have z4 := B0_4.lies
  clear K3 f3 B0_3 k4
  go_wp2_with fail
  refine (rMul_any b true 18914669500 0 _ f4).mono ?_
  rintro e w5 ⟨rfl, f5, k5⟩
  rw [mulS_true] at f5 ⊢
  dsimp only at f5 ⊢
  have K5 : Kept b w w5 := Kept.trans K4 k5
  have B0_5 : Arr w.heap.size [.int .i64 0, .int .i64 0, .int .i64 0] w5 := B0_4.kept k5 (Nat.ne_of_gt y1_BF)
  have z5 := B0_5.lies
  clear K4 f4 B0_4 k5
  go_wp2_with fail
  refine (rAdd_any b true 5399914965875 0 _ f5).mono ?_
  rintro e w6 ⟨rfl, f6, k6⟩
  rw [addS_true] at f6 ⊢
  dsimp only at f6 ⊢
  have K6 : Kept b w w6 := Kept.trans K5 k6
  have B0_6 : Arr w.heap.size [.int .i64 0, .int .i64 0, .int .i64 0] w6 := B0_5.kept k6 (Nat.ne_of_gt y1_BF)
  have z6 := B0_6.lies
  clear K5 f5 B0_5 k6
  go_wp2_with fail
  refine (rMod_any b true 0 6908435304716 _ f6).mono ?_
  rintro e w7 ⟨rfl, f7, k7⟩
  rw [modS_true] at f7 ⊢
  dsimp only at f7 ⊢
  have K7 : Kept b w w7 := Kept.trans K6 k7
  have B0_7 : Arr w.heap.size [.int .i64 0, .int .i64 0, .int .i64 0] w7 := B0_6.kept k7 (Nat.ne_of_gt y1_BF)
  have z7 := B0_7.lies
  clear K6 f6 B0_6 k7
  go_wp2_with fail
  refine (rSin_any b true 0 _ f7).mono ?_
  rintro e w8 ⟨rfl, f8, k8⟩
  rw [sinA_true] at f8 ⊢
  dsimp only at f8 ⊢
  have K8 : Kept b w w8 := Kept.trans K7 k8
  have B0_8 : Arr w.heap.size [.int .i64 0, .int .i64 0, .int .i64 0] w8 := B0_7.kept k8 (Nat.ne_of_gt y1_BF)
  have z8 := B0_8.lies
  clear K7 f7 B0_7 k8
  go_wp2_with fail
  refine (rMul_any b true 36749037801 0 _ f8).mono ?_
  rintro e w9 ⟨rfl, f9, k9⟩
  rw [mulS_true] at f9 ⊢
  dsimp only at f9 ⊢
  have K9 : Kept b w w9 := Kept.trans K8 k9
  have B0_9 : Arr w.heap.size [.int .i64 0, .int .i64 0, .int .i64 0] w9 := B0_8.kept k9 (Nat.ne_of_gt y1_BF)
  have z9 := B0_9.lies
  clear K8 f8 B0_8 k9
  go_wp2_with fail
  refine (rSin_any b true 0 _ f9).mono ?_
  rintro e w10 ⟨rfl, f10, k10⟩
  rw [sinA_true] at f10 ⊢
  dsimp only at f10 ⊢
  have K10 : Kept b w w10 := Kept.trans K9 k10
  have B0_10 : Arr w.heap.size [.int .i64 0, .int .i64 0, .int .i64 0] w10 := B0_9.kept k10 (Nat.ne_of_gt y1_BF)
  have z10 := B0_10.lies
  clear K9 f9 B0_9 k10
  go_wp2_with fail
  refine (rMul_any b true 383801961 0 _ f10).mono ?_
  rintro e w11 ⟨rfl, f11, k11⟩
  rw [mulS_true] at f11 ⊢
  dsimp only at f11 ⊢
  have K11 : Kept b w w11 := Kept.trans K10 k11
  have B0_11 : Arr w.heap.size [.int .i64 0, .int .i64 0, .int .i64 0] w11 := B0_10.kept k11 (Nat.ne_of_gt y1_BF)
  have z11 := B0_11.lies
  clear K10 f10 B0_10 k11
  go_wp2_with fail
  refine (rAdd_any b true 0 0 _ f11).mono ?_
  rintro e w12 ⟨rfl, f12, k12⟩
  rw [addS_true] at f12 ⊢
  dsimp only at f12 ⊢
  have K12 : Kept b w w12 := Kept.trans K11 k12
  have B0_12 : Arr w.heap.size [.int .i64 0, .int .i64 0, .int .i64 0] w12 := B0_11.kept k12 (Nat.ne_of_gt y1_BF)
  have z12 := B0_12.lies
  clear K11 f11 B0_11 k12
  go_wp2_with fail
  refine (rAdd_any b true 0 0 _ f12).mono ?_
  rintro e w13 ⟨rfl, f13, k13⟩
  rw [addS_true] at f13 ⊢
  dsimp only at f13 ⊢
  have K13 : Kept b w w13 := Kept.trans K12 k13
  have B0_13 : Arr w.heap.size [.int .i64 0, .int .i64 0, .int .i64 0] w13 := B0_12.kept k13 (Nat.ne_of_gt y1_BF)
  have z13 := B0_13.lies
  clear K12 f12 B0_12 k13
  go_wp2_with fail
  refine (rMul_any b true 6908 0 _ f13).mono ?_
  rintro e w14 ⟨rfl, f14, k14⟩
  rw [mulS_true] at f14 ⊢
  dsimp only at f14 ⊢
  have K14 : Kept b w w14 := Kept.trans K13 k14
  have B0_14 : Arr w.heap.size [.int .i64 0, .int .i64 0, .int .i64 0] w14 := B0_13.kept k14 (Nat.ne_of_gt y1_BF)
  have z14 := B0_14.lies
  clear K13 f13 B0_13 k14
  go_wp2_with fail
  refine (rSub_any b true 449733620800 0 _ f14).mono ?_
  rintro e w15 ⟨rfl, f15, k15⟩
  rw [subS_true] at f15 ⊢
  dsimp only at f15 ⊢
  have K15 : Kept b w w15 := Kept.trans K14 k15
  have B0_15 : Arr w.heap.size [.int .i64 0, .int .i64 0, .int .i64 0] w15 := B0_14.kept k15 (Nat.ne_of_gt y1_BF)
  have z15 := B0_15.lies
  clear K14 f14 B0_14 k15
  go_wp2_with fail
  refine (rSin_any b true 0 _ f15).mono ?_
  rintro e w16 ⟨rfl, f16, k16⟩
  rw [sinA_true] at f16 ⊢
  dsimp only at f16 ⊢
  have K16 : Kept b w w16 := Kept.trans K15 k16
  have B0_16 : Arr w.heap.size [.int .i64 0, .int .i64 0, .int .i64 0] w16 := B0_15.kept k16 (Nat.ne_of_gt y1_BF)
  have z16 := B0_16.lies
  clear K15 f15 B0_15 k16
  go_wp2_with fail
  refine (rCos_any b true 0 _ f16).mono ?_
  rintro e w17 ⟨rfl, f17, k17⟩
  rw [cosA_true] at f17 ⊢
  dsimp only at f17 ⊢
  have K17 : Kept b w w17 := Kept.trans K16 k17
  have B0_17 : Arr w.heap.size [.int .i64 0, .int .i64 0, .int .i64 0] w17 := B0_16.kept k17 (Nat.ne_of_gt y1_BF)
  have z17 := B0_17.lies
  clear K16 f16 B0_16 k17
  go_wp2_with fail
  refine (rCos_any b true 0 _ f17).mono ?_
  rintro e w18 ⟨rfl, f18, k18⟩
  rw [cosA_true] at f18 ⊢
  dsimp only at f18 ⊢
  have K18 : Kept b w w18 := Kept.trans K17 k18
  have B0_18 : Arr w.heap.size [.int .i64 0, .int .i64 0, .int .i64 0] w18 := B0_17.kept k18 (Nat.ne_of_gt y1_BF)
  have z18 := B0_18.lies
  clear K17 f17 B0_17 k18
  go_wp2_with fail
  refine (rMul_any b true 0 0 _ f18).mono ?_
  rintro e w19 ⟨rfl, f19, k19⟩
  rw [mulS_true] at f19 ⊢
  dsimp only at f19 ⊢
  have K19 : Kept b w w19 := Kept.trans K18 k19
  have B0_19 : Arr w.heap.size [.int .i64 0, .int .i64 0, .int .i64 0] w19 := B0_18.kept k19 (Nat.ne_of_gt y1_BF)
  have z19 := B0_19.lies
  clear K18 f18 B0_18 k19
  go_wp2_with fail
  refine (rSin_any b true 0 _ f19).mono ?_
  rintro e w20 ⟨rfl, f20, k20⟩
  rw [sinA_true] at f20 ⊢
  dsimp only at f20 ⊢
  have K20 : Kept b w w20 := Kept.trans K19 k20
  have B0_20 : Arr w.heap.size [.int .i64 0, .int .i64 0, .int .i64 0] w20 := B0_19.kept k20 (Nat.ne_of_gt y1_BF)
  have z20 := B0_20.lies
  clear K19 f19 B0_19 k20
  go_wp2_with fail
  refine (rMul_any b true 0 0 _ f20).mono ?_
  rintro e w21 ⟨rfl, f21, k21⟩
  rw [mulS_true] at f21 ⊢
  dsimp only at f21 ⊢
  have K21 : Kept b w w21 := Kept.trans K20 k21
  have B0_21 : Arr w.heap.size [.int .i64 0, .int .i64 0, .int .i64 0] w21 := B0_20.kept k21 (Nat.ne_of_gt y1_BF)
  have z21 := B0_21.lies
  clear K20 f20 B0_20 k21
  have y2_BF : b < w21.heap.size := f21.lies
  have y2_B0 : w.heap.size < w21.heap.size := B0_21.lies
  have c22_B0_0 : w21.cell? ⟨w.heap.size, 0, none⟩ = some (.int .i64 0) := B0_21.c 0 (of_decide_eq_true rfl)
  have c22_B0_1 : w21.cell? ⟨w.heap.size, 1, none⟩ = some (.int .i64 0) := B0_21.c 1 (of_decide_eq_true rfl)
  have c22_B0_2 : w21.cell? ⟨w.heap.size, 2, none⟩ = some (.int .i64 0) := B0_21.c 2 (of_decide_eq_true rfl)
  have c22_BF := f21.cell
  have g22_B0_0 := B0_21.f 0 (of_decide_eq_true rfl)
  have g22_B0_1 := B0_21.f 1 (of_decide_eq_true rfl)
  have g22_B0_2 := B0_21.f 2 (of_decide_eq_true rfl)
  have l22_B0 := B0_21.lies
  have l22_BF := f21.lies
  go_wp2_with (with_reducible refine post_stop ?_)
  refine Stop.mk ?_
  clear c22_B0_0 c22_B0_1 c22_B0_2 c22_BF g22_B0_0 g22_B0_1 g22_B0_2 l22_B0 l22_BF
  refine bodyPost_ret (v := .agg #[.int .i64 0, .int .i64 0, .int .i64 0]) (results_arr Try.results9 ((((B0_21.put 0 (of_decide_eq_true rfl) (.int .i64 0) [.int .i64 0, .int .i64 0, .int .i64 0] rfl).put 1 (of_decide_eq_true rfl) (.int .i64 0) [.int .i64 0, .int .i64 0, .int .i64 0] rfl).put 2 (of_decide_eq_true rfl) (.int .i64 0) [.int .i64 0, .int .i64 0, .int .i64 0] rfl).alloc _) rfl (by kernel_rfl) (by kernel_rfl)) rfl ?_
  exact ⟨rfl, ((((f21.new w.heap.size 0 (Nat.ne_of_lt y1_BF) (.int .i64 0)).new w.heap.size 1 (Nat.ne_of_lt y1_BF) (.int .i64 0)).new w.heap.size 2 (Nat.ne_of_lt y1_BF) (.int .i64 0)).alloc _), ((((K21.new _ _ (by omega) _).new _ _ (by omega) _).new _ _ (by omega) _).al _)⟩
set_option maxRecDepth 100000 in
set_option maxHeartbeats 2000000 in
theorem tDir_n2 (b : Nat) (t : Int) (w : World) (hw : Fl b true w) :
    Calls Try.prog 9 #[.pointer (some ⟨b, 0, none⟩), .int .i64 t] w fun e w' => e = .returned (.agg #[.int .i64 ((0, 0, 0).1), .int .i64 ((0, 0, 0).2.1), .int .i64 ((0, 0, 0).2.2)]) ∧ Fl b true w' ∧ Kept b w w' := by
  have hl := hw.lies
  go_enter Try.func9, Try.ntmps9
  have y1_BF : b < w.heap.size := hw.lies
  go_wp2_with fail
  refine (dDays_any b true t _ (hw.alloc _)).mono ?_
  rintro e w1 ⟨rfl, f1, k1⟩
  rw [cDaysS_true] at f1 ⊢
  dsimp only at f1 ⊢
  have K1 : Kept b w w1 := Kept.trans ((Kept.refl b w).al _) k1
  have B0_1 : Arr w.heap.size [.int .i64 0, .int .i64 0, .int .i64 0] w1 := (Arr_at _ _ [.int .i64 0, .int .i64 0, .int .i64 0] _ (by simp)).kept k1 (Nat.ne_of_gt y1_BF)
  have z1 := B0_1.lies
  clear k1
  go_wp2_with fail
  refine (rMul_any b true 18913766030 0 _ f1).mono ?_
  rintro e w2 ⟨rfl, f2, k2⟩
  rw [mulS_true] at f2 ⊢
  dsimp only at f2 ⊢
  have K2 : Kept b w w2 := Kept.trans K1 k2
  have B0_2 : Arr w.heap.size [.int .i64 0, .int .i64 0, .int .i64 0] w2 := B0_1.kept k2 (Nat.ne_of_gt y1_BF)
  have z2 := B0_2.lies
  clear K1 f1 B0_1 k2
  go_wp2_with fail
  refine (rAdd_any b true 6870645337657 0 _ f2).mono ?_
  rintro e w3 ⟨rfl, f3, k3⟩
  rw [addS_true] at f3 ⊢
  dsimp only at f3 ⊢
  have K3 : Kept b w w3 := Kept.trans K2 k3
  have B0_3 : Arr w.heap.size [.int .i64 0, .int .i64 0, .int .i64 0] w3 := B0_2.kept k3 (Nat.ne_of_gt y1_BF)
  have z3 := B0_3.lies
  clear K2 f2 B0_2 k3
  go_wp2_with fail
  refine (rMod_any b true 0 6908435304716 _ f3).mono ?_
  rintro e w4 ⟨rfl, f4, k4⟩
  rw [modS_true] at f4 ⊢
  dsimp only at f4 ⊢
  have K4 : Kept b w w4 := Kept.trans K3 k4
  have B0_4 : Arr w.heap.size [.int .i64 0, .int .i64 0, .int .i64 0] w4 := B0_3.kept k4 (Nat.ne_of_gt y1_BF)
  have z4 := B0_4.lies
  clear K3 f3 B0_3 k4
  go_wp2_with fail
  refine (rMul_any b true 18914669500 0 _ f4).mono ?_
  rintro e w5 ⟨rfl, f5, k5⟩
  rw [mulS_true] at f5 ⊢
  dsimp only at f5 ⊢
  have K5 : Kept b w w5 := Kept.trans K4 k5
  have B0_5 : Arr w.heap.size [.int .i64 0, .int .i64 0, .int .i64 0] w5 := B0_4.kept k5 (Nat.ne_of_gt y1_BF)
  have z5 := B0_5.lies
  clear K4 f4 B0_4 k5
  go_wp2_with fail
  refine (rAdd_any b true 5399914965875 0 _ f5).mono ?_
  rintro e w6 ⟨rfl, f6, k6⟩
  rw [addS_true] at f6 ⊢
  dsimp only at f6 ⊢
  have K6 : Kept b w w6 := Kept.trans K5 k6
  have B0_6 : Arr w.heap.size [.int .i64 0, .int .i64 0, .int .i64 0] w6 := B0_5.kept k6 (Nat.ne_of_gt y1_BF)
  have z6 := B0_6.lies
  clear K5 f5 B0_5 k6
  go_wp2_with fail
  refine (rMod_any b true 0 6908435304716 _ f6).mono ?_
  rintro e w7 ⟨rfl, f7, k7⟩
  rw [modS_true] at f7 ⊢
  dsimp only at f7 ⊢
  have K7 : Kept b w w7 := Kept.trans K6 k7
  have B0_7 : Arr w.heap.size [.int .i64 0, .int .i64 0, .int .i64 0] w7 := B0_6.kept k7 (Nat.ne_of_gt y1_BF)
  have z7 := B0_7.lies
  clear K6 f6 B0_6 k7
  go_wp2_with fail
  refine (rSin_any b true 0 _ f7).mono ?_
  rintro e w8 ⟨rfl, f8, k8⟩
  rw [sinA_true] at f8 ⊢
  dsimp only at f8 ⊢
  have K8 : Kept b w w8 := Kept.trans K7 k8
  have B0_8 : Arr w.heap.size [.int .i64 0, .int .i64 0, .int .i64 0] w8 := B0_7.kept k8 (Nat.ne_of_gt y1_BF)
  have z8 := B0_8.lies
  clear K7 f7 B0_7 k8
  go_wp2_with fail
  refine (rMul_any b true 36749037801 0 _ f8).mono ?_
  rintro e w9 ⟨rfl, f9, k9⟩
  rw [mulS_true] at f9 ⊢
  dsimp only at f9 ⊢
  have K9 : Kept b w w9 := Kept.trans K8 k9
  have B0_9 : Arr w.heap.size [.int .i64 0, .int .i64 0, .int .i64 0] w9 := B0_8.kept k9 (Nat.ne_of_gt y1_BF)
  have z9 := B0_9.lies
  clear K8 f8 B0_8 k9
  go_wp2_with fail
  refine (rSin_any b true 0 _ f9).mono ?_
  rintro e w10 ⟨rfl, f10, k10⟩
  rw [sinA_true] at f10 ⊢
  dsimp only at f10 ⊢
  have K10 : Kept b w w10 := Kept.trans K9 k10
  have B0_10 : Arr w.heap.size [.int .i64 0, .int .i64 0, .int .i64 0] w10 := B0_9.kept k10 (Nat.ne_of_gt y1_BF)
  have z10 := B0_10.lies
  clear K9 f9 B0_9 k10
  go_wp2_with fail
  refine (rMul_any b true 383801961 0 _ f10).mono ?_
  rintro e w11 ⟨rfl, f11, k11⟩
  rw [mulS_true] at f11 ⊢
  dsimp only at f11 ⊢
  have K11 : Kept b w w11 := Kept.trans K10 k11
  have B0_11 : Arr w.heap.size [.int .i64 0, .int .i64 0, .int .i64 0] w11 := B0_10.kept k11 (Nat.ne_of_gt y1_BF)
  have z11 := B0_11.lies
  clear K10 f10 B0_10 k11
  go_wp2_with fail
  refine (rAdd_any b true 0 0 _ f11).mono ?_
  rintro e w12 ⟨rfl, f12, k12⟩
  rw [addS_true] at f12 ⊢
  dsimp only at f12 ⊢
  have K12 : Kept b w w12 := Kept.trans K11 k12
  have B0_12 : Arr w.heap.size [.int .i64 0, .int .i64 0, .int .i64 0] w12 := B0_11.kept k12 (Nat.ne_of_gt y1_BF)
  have z12 := B0_12.lies
  clear K11 f11 B0_11 k12
  go_wp2_with fail
  refine (rAdd_any b true 0 0 _ f12).mono ?_
  rintro e w13 ⟨rfl, f13, k13⟩
  rw [addS_true] at f13 ⊢
  dsimp only at f13 ⊢
  have K13 : Kept b w w13 := Kept.trans K12 k13
  have B0_13 : Arr w.heap.size [.int .i64 0, .int .i64 0, .int .i64 0] w13 := B0_12.kept k13 (Nat.ne_of_gt y1_BF)
  have z13 := B0_13.lies
  clear K12 f12 B0_12 k13
  go_wp2_with fail
  refine (rMul_any b true 6908 0 _ f13).mono ?_
  rintro e w14 ⟨rfl, f14, k14⟩
  rw [mulS_true] at f14 ⊢
  dsimp only at f14 ⊢
  have K14 : Kept b w w14 := Kept.trans K13 k14
  have B0_14 : Arr w.heap.size [.int .i64 0, .int .i64 0, .int .i64 0] w14 := B0_13.kept k14 (Nat.ne_of_gt y1_BF)
  have z14 := B0_14.lies
  clear K13 f13 B0_13 k14
  go_wp2_with fail
  refine (rSub_any b true 449733620800 0 _ f14).mono ?_
  rintro e w15 ⟨rfl, f15, k15⟩
  rw [subS_true] at f15 ⊢
  dsimp only at f15 ⊢
  have K15 : Kept b w w15 := Kept.trans K14 k15
  have B0_15 : Arr w.heap.size [.int .i64 0, .int .i64 0, .int .i64 0] w15 := B0_14.kept k15 (Nat.ne_of_gt y1_BF)
  have z15 := B0_15.lies
  clear K14 f14 B0_14 k15
  go_wp2_with fail
  refine (rSin_any b true 0 _ f15).mono ?_
  rintro e w16 ⟨rfl, f16, k16⟩
  rw [sinA_true] at f16 ⊢
  dsimp only at f16 ⊢
  have K16 : Kept b w w16 := Kept.trans K15 k16
  have B0_16 : Arr w.heap.size [.int .i64 0, .int .i64 0, .int .i64 0] w16 := B0_15.kept k16 (Nat.ne_of_gt y1_BF)
  have z16 := B0_16.lies
  clear K15 f15 B0_15 k16
  go_wp2_with fail
  refine (rCos_any b true 0 _ f16).mono ?_
  rintro e w17 ⟨rfl, f17, k17⟩
  rw [cosA_true] at f17 ⊢
  dsimp only at f17 ⊢
  have K17 : Kept b w w17 := Kept.trans K16 k17
  have B0_17 : Arr w.heap.size [.int .i64 0, .int .i64 0, .int .i64 0] w17 := B0_16.kept k17 (Nat.ne_of_gt y1_BF)
  have z17 := B0_17.lies
  clear K16 f16 B0_16 k17
  go_wp2_with fail
  refine (rCos_any b true 0 _ f17).mono ?_
  rintro e w18 ⟨rfl, f18, k18⟩
  rw [cosA_true] at f18 ⊢
  dsimp only at f18 ⊢
  have K18 : Kept b w w18 := Kept.trans K17 k18
  have B0_18 : Arr w.heap.size [.int .i64 0, .int .i64 0, .int .i64 0] w18 := B0_17.kept k18 (Nat.ne_of_gt y1_BF)
  have z18 := B0_18.lies
  clear K17 f17 B0_17 k18
  go_wp2_with fail
  refine (rMul_any b true 0 0 _ f18).mono ?_
  rintro e w19 ⟨rfl, f19, k19⟩
  rw [mulS_true] at f19 ⊢
  dsimp only at f19 ⊢
  have K19 : Kept b w w19 := Kept.trans K18 k19
  have B0_19 : Arr w.heap.size [.int .i64 0, .int .i64 0, .int .i64 0] w19 := B0_18.kept k19 (Nat.ne_of_gt y1_BF)
  have z19 := B0_19.lies
  clear K18 f18 B0_18 k19
  go_wp2_with fail
  refine (rSin_any b true 0 _ f19).mono ?_
  rintro e w20 ⟨rfl, f20, k20⟩
  rw [sinA_true] at f20 ⊢
  dsimp only at f20 ⊢
  have K20 : Kept b w w20 := Kept.trans K19 k20
  have B0_20 : Arr w.heap.size [.int .i64 0, .int .i64 0, .int .i64 0] w20 := B0_19.kept k20 (Nat.ne_of_gt y1_BF)
  have z20 := B0_20.lies
  clear K19 f19 B0_19 k20
  go_wp2_with fail
  refine (rMul_any b true 0 0 _ f20).mono ?_
  rintro e w21 ⟨rfl, f21, k21⟩
  rw [mulS_true] at f21 ⊢
  dsimp only at f21 ⊢
  have K21 : Kept b w w21 := Kept.trans K20 k21
  have B0_21 : Arr w.heap.size [.int .i64 0, .int .i64 0, .int .i64 0] w21 := B0_20.kept k21 (Nat.ne_of_gt y1_BF)
  have z21 := B0_21.lies
  clear K20 f20 B0_20 k21
  have y2_BF : b < w21.heap.size := f21.lies
  have y2_B0 : w.heap.size < w21.heap.size := B0_21.lies
  have c22_B0_0 : w21.cell? ⟨w.heap.size, 0, none⟩ = some (.int .i64 0) := B0_21.c 0 (of_decide_eq_true rfl)
  have c22_B0_1 : w21.cell? ⟨w.heap.size, 1, none⟩ = some (.int .i64 0) := B0_21.c 1 (of_decide_eq_true rfl)
  have c22_B0_2 : w21.cell? ⟨w.heap.size, 2, none⟩ = some (.int .i64 0) := B0_21.c 2 (of_decide_eq_true rfl)
  have c22_BF := f21.cell
  have g22_B0_0 := B0_21.f 0 (of_decide_eq_true rfl)
  have g22_B0_1 := B0_21.f 1 (of_decide_eq_true rfl)
  have g22_B0_2 := B0_21.f 2 (of_decide_eq_true rfl)
  have l22_B0 := B0_21.lies
  have l22_BF := f21.lies
  go_wp2_with (with_reducible refine post_stop ?_)
  refine Stop.mk ?_
  clear c22_B0_0 c22_B0_1 c22_B0_2 c22_BF g22_B0_0 g22_B0_1 g22_B0_2 l22_B0 l22_BF
  refine bodyPost_ret (v := .agg #[.int .i64 0, .int .i64 0, .int .i64 0]) (results_arr Try.results9 ((((B0_21.put 0 (of_decide_eq_true rfl) (.int .i64 0) [.int .i64 0, .int .i64 0, .int .i64 0] rfl).put 1 (of_decide_eq_true rfl) (.int .i64 0) [.int .i64 0, .int .i64 0, .int .i64 0] rfl).put 2 (of_decide_eq_true rfl) (.int .i64 0) [.int .i64 0, .int .i64 0, .int .i64 0] rfl).alloc _) rfl (by kernel_rfl) (by kernel_rfl)) rfl ?_
  exact ⟨rfl, ((((f21.new w.heap.size 0 (Nat.ne_of_lt y1_BF) (.int .i64 0)).new w.heap.size 1 (Nat.ne_of_lt y1_BF) (.int .i64 0)).new w.heap.size 2 (Nat.ne_of_lt y1_BF) (.int .i64 0)).alloc _), ((((K21.new _ _ (by omega) _).new _ _ (by omega) _).new _ _ (by omega) _).al _)⟩
set_option maxRecDepth 100000 in
set_option maxHeartbeats 2000000 in
theorem tDir_good (b : Nat) (t : Int) (w : World) (hw : Fl b false w) (d : Int) (hd : cDaysS false t = (d, false)) (Q : SunS d) :
    Calls Try.prog 9 #[.pointer (some ⟨b, 0, none⟩), .int .i64 t] w fun e w' => e = .returned (.agg #[.int .i64 ((Q.cl, Q.Y, Q.Z).1), .int .i64 ((Q.cl, Q.Y, Q.Z).2.1), .int .i64 ((Q.cl, Q.Y, Q.Z).2.2)]) ∧ Fl b false w' ∧ Kept b w w' := by
  have hl := hw.lies
  go_enter Try.func9, Try.ntmps9
  have y1_BF : b < w.heap.size := hw.lies
  go_wp2_with fail
  refine (dDays_any b false t _ (hw.alloc _)).mono ?_
  rintro e w1 ⟨rfl, f1, k1⟩
  rw [hd] at f1 ⊢
  dsimp only at f1 ⊢
  have K1 : Kept b w w1 := Kept.trans ((Kept.refl b w).al _) k1
  have B0_1 : Arr w.heap.size [.int .i64 0, .int .i64 0, .int .i64 0] w1 := (Arr_at _ _ [.int .i64 0, .int .i64 0, .int .i64 0] _ (by simp)).kept k1 (Nat.ne_of_gt y1_BF)
  have z1 := B0_1.lies
  clear k1
  go_wp2_with fail
  refine (rMul_any b false 18913766030 d _ f1).mono ?_
  rintro e w2 ⟨rfl, f2, k2⟩
  rw [Q.hg1] at f2 ⊢
  dsimp only at f2 ⊢
  have K2 : Kept b w w2 := Kept.trans K1 k2
  have B0_2 : Arr w.heap.size [.int .i64 0, .int .i64 0, .int .i64 0] w2 := B0_1.kept k2 (Nat.ne_of_gt y1_BF)
  have z2 := B0_2.lies
  clear K1 f1 B0_1 k2
  go_wp2_with fail
  refine (rAdd_any b false 6870645337657 Q.g1 _ f2).mono ?_
  rintro e w3 ⟨rfl, f3, k3⟩
  rw [Q.hg2] at f3 ⊢
  dsimp only at f3 ⊢
  have K3 : Kept b w w3 := Kept.trans K2 k3
  have B0_3 : Arr w.heap.size [.int .i64 0, .int .i64 0, .int .i64 0] w3 := B0_2.kept k3 (Nat.ne_of_gt y1_BF)
  have z3 := B0_3.lies
  clear K2 f2 B0_2 k3
  go_wp2_with fail
  refine (rMod_any b false (6870645337657 + Q.g1) 6908435304716 _ f3).mono ?_
  rintro e w4 ⟨rfl, f4, k4⟩
  rw [Q.hg] at f4 ⊢
  dsimp only at f4 ⊢
  have K4 : Kept b w w4 := Kept.trans K3 k4
  have B0_4 : Arr w.heap.size [.int .i64 0, .int .i64 0, .int .i64 0] w4 := B0_3.kept k4 (Nat.ne_of_gt y1_BF)
  have z4 := B0_4.lies
  clear K3 f3 B0_3 k4
  go_wp2_with fail
  refine (rMul_any b false 18914669500 d _ f4).mono ?_
  rintro e w5 ⟨rfl, f5, k5⟩
  rw [Q.hq1] at f5 ⊢
  dsimp only at f5 ⊢
  have K5 : Kept b w w5 := Kept.trans K4 k5
  have B0_5 : Arr w.heap.size [.int .i64 0, .int .i64 0, .int .i64 0] w5 := B0_4.kept k5 (Nat.ne_of_gt y1_BF)
  have z5 := B0_5.lies
  clear K4 f4 B0_4 k5
  go_wp2_with fail
  refine (rAdd_any b false 5399914965875 Q.q1 _ f5).mono ?_
  rintro e w6 ⟨rfl, f6, k6⟩
  rw [Q.hq2] at f6 ⊢
  dsimp only at f6 ⊢
  have K6 : Kept b w w6 := Kept.trans K5 k6
  have B0_6 : Arr w.heap.size [.int .i64 0, .int .i64 0, .int .i64 0] w6 := B0_5.kept k6 (Nat.ne_of_gt y1_BF)
  have z6 := B0_6.lies
  clear K5 f5 B0_5 k6
  go_wp2_with fail
  refine (rMod_any b false (5399914965875 + Q.q1) 6908435304716 _ f6).mono ?_
  rintro e w7 ⟨rfl, f7, k7⟩
  rw [Q.hq] at f7 ⊢
  dsimp only at f7 ⊢
  have K7 : Kept b w w7 := Kept.trans K6 k7
  have B0_7 : Arr w.heap.size [.int .i64 0, .int .i64 0, .int .i64 0] w7 := B0_6.kept k7 (Nat.ne_of_gt y1_BF)
  have z7 := B0_7.lies
  clear K6 f6 B0_6 k7
  go_wp2_with fail
  refine (rSin_any b false ((6870645337657 + Q.g1) % 6908435304716) _ f7).mono ?_
  rintro e w8 ⟨rfl, f8, k8⟩
  rw [Q.hsg] at f8 ⊢
  dsimp only at f8 ⊢
  have K8 : Kept b w w8 := Kept.trans K7 k8
  have B0_8 : Arr w.heap.size [.int .i64 0, .int .i64 0, .int .i64 0] w8 := B0_7.kept k8 (Nat.ne_of_gt y1_BF)
  have z8 := B0_8.lies
  clear K7 f7 B0_7 k8
  go_wp2_with fail
  refine (rMul_any b false 36749037801 Q.sg _ f8).mono ?_
  rintro e w9 ⟨rfl, f9, k9⟩
  rw [Q.ha] at f9 ⊢
  dsimp only at f9 ⊢
  have K9 : Kept b w w9 := Kept.trans K8 k9
  have B0_9 : Arr w.heap.size [.int .i64 0, .int .i64 0, .int .i64 0] w9 := B0_8.kept k9 (Nat.ne_of_gt y1_BF)
  have z9 := B0_9.lies
  clear K8 f8 B0_8 k9
  go_wp2_with fail
  refine (rSin_any b false (2 * ((6870645337657 + Q.g1) % 6908435304716)) _ f9).mono ?_
  rintro e w10 ⟨rfl, f10, k10⟩
  rw [Q.hs2] at f10 ⊢
  dsimp only at f10 ⊢
  have K10 : Kept b w w10 := Kept.trans K9 k10
  have B0_10 : Arr w.heap.size [.int .i64 0, .int .i64 0, .int .i64 0] w10 := B0_9.kept k10 (Nat.ne_of_gt y1_BF)
  have z10 := B0_10.lies
  clear K9 f9 B0_9 k10
  go_wp2_with fail
  refine (rMul_any b false 383801961 Q.s2 _ f10).mono ?_
  rintro e w11 ⟨rfl, f11, k11⟩
  rw [Q.hb] at f11 ⊢
  dsimp only at f11 ⊢
  have K11 : Kept b w w11 := Kept.trans K10 k11
  have B0_11 : Arr w.heap.size [.int .i64 0, .int .i64 0, .int .i64 0] w11 := B0_10.kept k11 (Nat.ne_of_gt y1_BF)
  have z11 := B0_11.lies
  clear K10 f10 B0_10 k11
  go_wp2_with fail
  refine (rAdd_any b false ((5399914965875 + Q.q1) % 6908435304716) Q.a _ f11).mono ?_
  rintro e w12 ⟨rfl, f12, k12⟩
  rw [Q.hqa] at f12 ⊢
  dsimp only at f12 ⊢
  have K12 : Kept b w w12 := Kept.trans K11 k12
  have B0_12 : Arr w.heap.size [.int .i64 0, .int .i64 0, .int .i64 0] w12 := B0_11.kept k12 (Nat.ne_of_gt y1_BF)
  have z12 := B0_12.lies
  clear K11 f11 B0_11 k12
  go_wp2_with fail
  refine (rAdd_any b false (((5399914965875 + Q.q1) % 6908435304716) + Q.a) Q.b _ f12).mono ?_
  rintro e w13 ⟨rfl, f13, k13⟩
  rw [Q.hl] at f13 ⊢
  dsimp only at f13 ⊢
  have K13 : Kept b w w13 := Kept.trans K12 k13
  have B0_13 : Arr w.heap.size [.int .i64 0, .int .i64 0, .int .i64 0] w13 := B0_12.kept k13 (Nat.ne_of_gt y1_BF)
  have z13 := B0_13.lies
  clear K12 f12 B0_12 k13
  go_wp2_with fail
  refine (rMul_any b false 6908 d _ f13).mono ?_
  rintro e w14 ⟨rfl, f14, k14⟩
  rw [Q.he1] at f14 ⊢
  dsimp only at f14 ⊢
  have K14 : Kept b w w14 := Kept.trans K13 k14
  have B0_14 : Arr w.heap.size [.int .i64 0, .int .i64 0, .int .i64 0] w14 := B0_13.kept k14 (Nat.ne_of_gt y1_BF)
  have z14 := B0_14.lies
  clear K13 f13 B0_13 k14
  go_wp2_with fail
  refine (rSub_any b false 449733620800 Q.e1 _ f14).mono ?_
  rintro e w15 ⟨rfl, f15, k15⟩
  rw [Q.he] at f15 ⊢
  dsimp only at f15 ⊢
  have K15 : Kept b w w15 := Kept.trans K14 k15
  have B0_15 : Arr w.heap.size [.int .i64 0, .int .i64 0, .int .i64 0] w15 := B0_14.kept k15 (Nat.ne_of_gt y1_BF)
  have z15 := B0_15.lies
  clear K14 f14 B0_14 k15
  go_wp2_with fail
  refine (rSin_any b false (((5399914965875 + Q.q1) % 6908435304716) + Q.a + Q.b) _ f15).mono ?_
  rintro e w16 ⟨rfl, f16, k16⟩
  rw [Q.hsl] at f16 ⊢
  dsimp only at f16 ⊢
  have K16 : Kept b w w16 := Kept.trans K15 k16
  have B0_16 : Arr w.heap.size [.int .i64 0, .int .i64 0, .int .i64 0] w16 := B0_15.kept k16 (Nat.ne_of_gt y1_BF)
  have z16 := B0_16.lies
  clear K15 f15 B0_15 k16
  go_wp2_with fail
  refine (rCos_any b false (((5399914965875 + Q.q1) % 6908435304716) + Q.a + Q.b) _ f16).mono ?_
  rintro e w17 ⟨rfl, f17, k17⟩
  rw [Q.hcl] at f17 ⊢
  dsimp only at f17 ⊢
  have K17 : Kept b w w17 := Kept.trans K16 k17
  have B0_17 : Arr w.heap.size [.int .i64 0, .int .i64 0, .int .i64 0] w17 := B0_16.kept k17 (Nat.ne_of_gt y1_BF)
  have z17 := B0_17.lies
  clear K16 f16 B0_16 k17
  go_wp2_with fail
  refine (rCos_any b false (449733620800 - Q.e1) _ f17).mono ?_
  rintro e w18 ⟨rfl, f18, k18⟩
  rw [Q.hce] at f18 ⊢
  dsimp only at f18 ⊢
  have K18 : Kept b w w18 := Kept.trans K17 k18
  have B0_18 : Arr w.heap.size [.int .i64 0, .int .i64 0, .int .i64 0] w18 := B0_17.kept k18 (Nat.ne_of_gt y1_BF)
  have z18 := B0_18.lies
  clear K17 f17 B0_17 k18
  go_wp2_with fail
  refine (rMul_any b false Q.ce Q.sl _ f18).mono ?_
  rintro e w19 ⟨rfl, f19, k19⟩
  rw [Q.hY] at f19 ⊢
  dsimp only at f19 ⊢
  have K19 : Kept b w w19 := Kept.trans K18 k19
  have B0_19 : Arr w.heap.size [.int .i64 0, .int .i64 0, .int .i64 0] w19 := B0_18.kept k19 (Nat.ne_of_gt y1_BF)
  have z19 := B0_19.lies
  clear K18 f18 B0_18 k19
  go_wp2_with fail
  refine (rSin_any b false (449733620800 - Q.e1) _ f19).mono ?_
  rintro e w20 ⟨rfl, f20, k20⟩
  rw [Q.hse] at f20 ⊢
  dsimp only at f20 ⊢
  have K20 : Kept b w w20 := Kept.trans K19 k20
  have B0_20 : Arr w.heap.size [.int .i64 0, .int .i64 0, .int .i64 0] w20 := B0_19.kept k20 (Nat.ne_of_gt y1_BF)
  have z20 := B0_20.lies
  clear K19 f19 B0_19 k20
  go_wp2_with fail
  refine (rMul_any b false Q.se Q.sl _ f20).mono ?_
  rintro e w21 ⟨rfl, f21, k21⟩
  rw [Q.hZ] at f21 ⊢
  dsimp only at f21 ⊢
  have K21 : Kept b w w21 := Kept.trans K20 k21
  have B0_21 : Arr w.heap.size [.int .i64 0, .int .i64 0, .int .i64 0] w21 := B0_20.kept k21 (Nat.ne_of_gt y1_BF)
  have z21 := B0_21.lies
  clear K20 f20 B0_20 k21
  have y2_BF : b < w21.heap.size := f21.lies
  have y2_B0 : w.heap.size < w21.heap.size := B0_21.lies
  have c22_B0_0 : w21.cell? ⟨w.heap.size, 0, none⟩ = some (.int .i64 0) := B0_21.c 0 (of_decide_eq_true rfl)
  have c22_B0_1 : w21.cell? ⟨w.heap.size, 1, none⟩ = some (.int .i64 0) := B0_21.c 1 (of_decide_eq_true rfl)
  have c22_B0_2 : w21.cell? ⟨w.heap.size, 2, none⟩ = some (.int .i64 0) := B0_21.c 2 (of_decide_eq_true rfl)
  have c22_BF := f21.cell
  have g22_B0_0 := B0_21.f 0 (of_decide_eq_true rfl)
  have g22_B0_1 := B0_21.f 1 (of_decide_eq_true rfl)
  have g22_B0_2 := B0_21.f 2 (of_decide_eq_true rfl)
  have l22_B0 := B0_21.lies
  have l22_BF := f21.lies
  go_wp2_with (with_reducible refine post_stop ?_)
  refine Stop.mk ?_
  clear c22_B0_0 c22_B0_1 c22_B0_2 c22_BF g22_B0_0 g22_B0_1 g22_B0_2 l22_B0 l22_BF
  refine bodyPost_ret (v := .agg #[.int .i64 Q.cl, .int .i64 Q.Y, .int .i64 Q.Z]) (results_arr Try.results9 ((((B0_21.put 0 (of_decide_eq_true rfl) (.int .i64 Q.cl) [.int .i64 Q.cl, .int .i64 0, .int .i64 0] rfl).put 1 (of_decide_eq_true rfl) (.int .i64 Q.Y) [.int .i64 Q.cl, .int .i64 Q.Y, .int .i64 0] rfl).put 2 (of_decide_eq_true rfl) (.int .i64 Q.Z) [.int .i64 Q.cl, .int .i64 Q.Y, .int .i64 Q.Z] rfl).alloc _) rfl (by kernel_rfl) (by kernel_rfl)) rfl ?_
  exact ⟨rfl, ((((f21.new w.heap.size 0 (Nat.ne_of_lt y1_BF) (.int .i64 Q.cl)).new w.heap.size 1 (Nat.ne_of_lt y1_BF) (.int .i64 Q.Y)).new w.heap.size 2 (Nat.ne_of_lt y1_BF) (.int .i64 Q.Z)).alloc _), ((((K21.new _ _ (by omega) _).new _ _ (by omega) _).new _ _ (by omega) _).al _)⟩
theorem tDir_any (b : Nat) (bad : Bool) (t : Int) (w : World) (hw : Fl b bad w) :
    Calls Try.prog 9 #[.pointer (some ⟨b, 0, none⟩), .int .i64 t] w fun e w' => e = .returned (.agg #[.int .i64 ((dirS bad t).1.1), .int .i64 ((dirS bad t).1.2.1), .int .i64 ((dirS bad t).1.2.2)]) ∧ Fl b (dirS bad t).2 w' ∧ Kept b w w' := by
  rcases dirS_cases bad t with ⟨hn, e⟩ | ⟨hb, e⟩ | ⟨hb, ⟨L⟩⟩
  · rw [e]; exact tDir_n1 b bad t w hw hn
  · subst hb; rw [e]; exact tDir_n2 b t w hw
  · subst hb; rw [L.e]; exact tDir_good b t w hw L.d L.hd L.Q
end Go.Proofs.Ytnfaafdoefpomaa
