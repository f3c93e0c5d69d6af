/-
  The walks of Earth, for the seat YtoadcnhcfodkgaaGreatDoor. (Made by mkfield.py.)
-/
import Derived.Test.YtoadcnhcfodkgaaGreatDoorGEarthA
import Derived.Test.YtoadcnhcfodkgaaGreatDoorGShapes
import Derived.Test.YtoadcnhcfodkgaaGreatDoorRoX
import Derived.Test.YtoadcnhcfodkgaaGreatDoorVcX
import Derived.Handy
import Derived.Deep.RegionHeld3
namespace Go.Proofs.YtoadcnhcfodkgaaGreatDoor
open Go.RowKit

set_option maxRecDepth 100000 in
set_option maxHeartbeats 4000000 in
theorem earth_good (b : Nat) (p : V3) (t r x y z : Int) (E : EarthT p t r x y z) (w : World) (hw : Fl b false w) (hG0 : Arr 0 (row 54 at0) w) (hG1 : Arr 1 (row 10 yr0) w) (hb : 1 < b) (hr : vNormS false p = (r, false)) (c1 : ¬ r < 6597069766656) (c2 : ¬ r > 10995116277760) (ht : cRight t = true) :
    Calls Tryz.prog 133 #[.pointer (some ⟨b, 0, none⟩), .agg #[.int .i64 p.1, .int .i64 p.2.1, .int .i64 p.2.2], .int .i64 t] w fun e w' => e = .returned (.agg #[.int .i64 x, .int .i64 y, .int .i64 z]) ∧ Fl b false w' ∧ Kept b w w' := by
  have hl := hw.lies
  have l_0 := hG0.lies
  have l_1 := hG1.lies
  go_enter Tryz.func133, Tryz.ntmps133
  have y1_BF : b < w.heap.size := hw.lies
  have y1_G0 : 0 < w.heap.size := hG0.lies
  have y1_G1 : 1 < w.heap.size := hG1.lies
  have y2_BF : b < w.heap.size + 1 := (Nat.lt_succ_of_lt hw.lies)
  have y2_G0 : 0 < w.heap.size + 1 := (Nat.lt_succ_of_lt hG0.lies)
  have y2_G1 : 1 < w.heap.size + 1 := (Nat.lt_succ_of_lt hG1.lies)
  have y2_B0 : w.heap.size < w.heap.size + 1 := (Nat.lt_succ_self _)
  go_wp2_with fail
  refine (vNorm_any b false p _ ((hw.alloc _).alloc _) ⟨(hG0.alloc _).alloc _, (hG1.alloc _).alloc _⟩ hb).mono ?_
  rintro e w1 ⟨rfl, f1, k1⟩
  rw [hr] at f1 ⊢
  dsimp only at f1 ⊢
  have K1 : Kept b w w1 := Kept.trans (((Kept.refl b w).al _).al _) k1
  have G0_1 : Arr 0 (row 54 at0) w1 := ((hG0.alloc _).alloc _).kept k1 (by omega)
  have G1_1 : Arr 1 (row 10 yr0) w1 := ((hG1.alloc _).alloc _).kept k1 (by omega)
  have B0_1 : Arr w.heap.size [.int .i64 p.1, .int .i64 p.2.1, .int .i64 p.2.2] w1 := ((Arr_at _ _ [.int .i64 p.1, .int .i64 p.2.1, .int .i64 p.2.2] _ (by simp)).alloc _).kept k1 (Nat.ne_of_gt y1_BF)
  have B1_1 : Arr (w.heap.size + 1) [.int .i64 0, .int .i64 0, .int .i64 0] w1 := (Arr_at _ _ [.int .i64 0, .int .i64 0, .int .i64 0] _ (by simp)).kept k1 (Nat.ne_of_gt y2_BF)
  have z1 := B1_1.lies
  clear hG0 hG1 k1
  go_wp2_with fail
  refine (cRight_any t _).mono ?_
  rintro e w2 ⟨rfl, k2⟩
  rw [ht]
  try dsimp only
  have K2 : Kept b w w2 := Kept.trans K1 (Kept.of_below k2)
  have BF_2 : Fl b false w2 := f1.below k2
  have G0_2 : Arr 0 (row 54 at0) w2 := G0_1.below k2
  have G1_2 : Arr 1 (row 10 yr0) w2 := G1_1.below k2
  have B0_2 : Arr w.heap.size [.int .i64 p.1, .int .i64 p.2.1, .int .i64 p.2.2] w2 := B0_1.below k2
  have B1_2 : Arr (w.heap.size + 1) [.int .i64 0, .int .i64 0, .int .i64 0] w2 := B1_1.below k2
  have z2 := B1_2.lies
  clear K1 f1 G0_1 G1_1 B0_1 B1_1 k2
  have c3_B0_0 : w2.cell? ⟨w.heap.size, 0, none⟩ = some (.int .i64 p.1) := B0_2.c 0 (of_decide_eq_true rfl)
  have c3_B0_1 : w2.cell? ⟨w.heap.size, 1, none⟩ = some (.int .i64 p.2.1) := B0_2.c 1 (of_decide_eq_true rfl)
  go_wp2_with fail
  refine (vNorm_any b false (p.1, p.2.1, 0) _ BF_2 ⟨G0_2, G1_2⟩ hb).mono ?_
  rintro e w3 ⟨rfl, f3, k3⟩
  rw [E.hw] at f3 ⊢
  dsimp only at f3 ⊢
  have K3 : Kept b w w3 := Kept.trans K2 k3
  have G0_3 : Arr 0 (row 54 at0) w3 := G0_2.kept k3 (by omega)
  have G1_3 : Arr 1 (row 10 yr0) w3 := G1_2.kept k3 (by omega)
  have B0_3 : Arr w.heap.size [.int .i64 p.1, .int .i64 p.2.1, .int .i64 p.2.2] w3 := B0_2.kept k3 (Nat.ne_of_gt y1_BF)
  have B1_3 : Arr (w.heap.size + 1) [.int .i64 0, .int .i64 0, .int .i64 0] w3 := B1_2.kept k3 (Nat.ne_of_gt y2_BF)
  have z3 := B1_3.lies
  clear c3_B0_0 c3_B0_1 K2 BF_2 G0_2 G1_2 B0_2 B1_2 k3
  have c4_B0_2 : w3.cell? ⟨w.heap.size, 2, none⟩ = some (.int .i64 p.2.2) := B0_3.c 2 (of_decide_eq_true rfl)
  go_wp2_with fail
  refine (Div_any b false p.2.2 r _ f3).mono ?_
  rintro e w4 ⟨rfl, f4, k4⟩
  rw [E.hc] at f4 ⊢
  dsimp only at f4 ⊢
  have K4 : Kept b w w4 := Kept.trans K3 k4
  have G0_4 : Arr 0 (row 54 at0) w4 := G0_3.kept k4 (by omega)
  have G1_4 : Arr 1 (row 10 yr0) w4 := G1_3.kept k4 (by omega)
  have B0_4 : Arr w.heap.size [.int .i64 p.1, .int .i64 p.2.1, .int .i64 p.2.2] w4 := B0_3.kept k4 (Nat.ne_of_gt y1_BF)
  have B1_4 : Arr (w.heap.size + 1) [.int .i64 0, .int .i64 0, .int .i64 0] w4 := B1_3.kept k4 (Nat.ne_of_gt y2_BF)
  have z4 := B1_4.lies
  clear c4_B0_2 K3 f3 G0_3 G1_3 B0_3 B1_3 k4
  go_wp2_with fail
  refine (Div_any b false E.wn r _ f4).mono ?_
  rintro e w5 ⟨rfl, f5, k5⟩
  rw [E.hs] at f5 ⊢
  dsimp only at f5 ⊢
  have K5 : Kept b w w5 := Kept.trans K4 k5
  have G0_5 : Arr 0 (row 54 at0) w5 := G0_4.kept k5 (by omega)
  have G1_5 : Arr 1 (row 10 yr0) w5 := G1_4.kept k5 (by omega)
  have B0_5 : Arr w.heap.size [.int .i64 p.1, .int .i64 p.2.1, .int .i64 p.2.2] w5 := B0_4.kept k5 (Nat.ne_of_gt y1_BF)
  have B1_5 : Arr (w.heap.size + 1) [.int .i64 0, .int .i64 0, .int .i64 0] w5 := B1_4.kept k5 (Nat.ne_of_gt y2_BF)
  have z5 := B1_5.lies
  clear K4 f4 G0_4 G1_4 B0_4 B1_4 k5
  have c6_B0_0 : w5.cell? ⟨w.heap.size, 0, none⟩ = some (.int .i64 p.1) := B0_5.c 0 (of_decide_eq_true rfl)
  have c6_B0_1 : w5.cell? ⟨w.heap.size, 1, none⟩ = some (.int .i64 p.2.1) := B0_5.c 1 (of_decide_eq_true rfl)
  have c6_B0_2 : w5.cell? ⟨w.heap.size, 2, none⟩ = some (.int .i64 p.2.2) := B0_5.c 2 (of_decide_eq_true rfl)
  go_wp2_with fail
  refine (lon_any b false p E.wn _ f5 _ _ rfl E.hl).mono ?_
  rintro e w6 ⟨rfl, f6, k6⟩
  rw [E.hl] at f6 ⊢
  dsimp only at f6 ⊢
  have K6 : Kept b w w6 := Kept.trans K5 k6
  have G0_6 : Arr 0 (row 54 at0) w6 := G0_5.kept k6 (by omega)
  have G1_6 : Arr 1 (row 10 yr0) w6 := G1_5.kept k6 (by omega)
  have B0_6 : Arr w.heap.size [.int .i64 p.1, .int .i64 p.2.1, .int .i64 p.2.2] w6 := B0_5.kept k6 (Nat.ne_of_gt y1_BF)
  have B1_6 : Arr (w.heap.size + 1) [.int .i64 0, .int .i64 0, .int .i64 0] w6 := B1_5.kept k6 (Nat.ne_of_gt y2_BF)
  have z6 := B1_6.lies
  clear c6_B0_0 c6_B0_1 c6_B0_2 K5 f5 G0_5 G1_5 B0_5 B1_5 k6
  go_wp2_with fail
  refine (Div_any b false 7005208482886 r _ f6).mono ?_
  rintro e w7 ⟨rfl, f7, k7⟩
  rw [E.hq] at f7 ⊢
  dsimp only at f7 ⊢
  have K7 : Kept b w w7 := Kept.trans K6 k7
  have G0_7 : Arr 0 (row 54 at0) w7 := G0_6.kept k7 (by omega)
  have G1_7 : Arr 1 (row 10 yr0) w7 := G1_6.kept k7 (by omega)
  have B0_7 : Arr w.heap.size [.int .i64 p.1, .int .i64 p.2.1, .int .i64 p.2.2] w7 := B0_6.kept k7 (Nat.ne_of_gt y1_BF)
  have B1_7 : Arr (w.heap.size + 1) [.int .i64 0, .int .i64 0, .int .i64 0] w7 := B1_6.kept k7 (Nat.ne_of_gt y2_BF)
  have z7 := B1_7.lies
  clear K6 f6 G0_6 G1_6 B0_6 B1_6 k7
  go_wp2_with fail
  refine (rounds_any b E.u E.v E.g _ f7 ⟨G0_7, G1_7⟩ hb E.g0 E.g7 E.W).mono ?_
  rintro e w8 ⟨rfl, f8, k8⟩
  have K8 : Kept b w w8 := Kept.trans K7 k8
  have G0_8 : Arr 0 (row 54 at0) w8 := G0_7.kept k8 (by omega)
  have G1_8 : Arr 1 (row 10 yr0) w8 := G1_7.kept k8 (by omega)
  have B0_8 : Arr w.heap.size [.int .i64 p.1, .int .i64 p.2.1, .int .i64 p.2.2] w8 := B0_7.kept k8 (Nat.ne_of_gt y1_BF)
  have B1_8 : Arr (w.heap.size + 1) [.int .i64 0, .int .i64 0, .int .i64 0] w8 := B1_7.kept k8 (Nat.ne_of_gt y2_BF)
  have z8_BF := f8.lies
  have z8_G0 := G0_8.lies
  have z8_G1 := G1_8.lies
  have z8_B0 := B0_8.lies
  have z8_B1 := B1_8.lies
  clear K7 f7 G0_7 G1_7 B0_7 B1_7 k8
  go_wp2_with fail
  refine (shapes_any b E.c E.s E.P E.D E.Q E.Z E.ic E.is _ f8).mono ?_
  rintro e w9 ⟨kA, kB, kC, rfl, f9, SA_9, SB_9, SC_9, gA, gB, gC, nAB, nAC, nBC, k9⟩
  have K9 : Kept b w w9 := Kept.trans K8 k9
  have G0_9 : Arr 0 (row 54 at0) w9 := G0_8.kept k9 (by omega)
  have G1_9 : Arr 1 (row 10 yr0) w9 := G1_8.kept k9 (by omega)
  have B0_9 : Arr w.heap.size [.int .i64 p.1, .int .i64 p.2.1, .int .i64 p.2.2] w9 := B0_8.kept k9 (Nat.ne_of_gt y1_BF)
  have B1_9 : Arr (w.heap.size + 1) [.int .i64 0, .int .i64 0, .int .i64 0] w9 := B1_8.kept k9 (Nat.ne_of_gt y2_BF)
  have z9_BF := f9.lies
  have z9_G0 := G0_9.lies
  have z9_G1 := G1_9.lies
  have z9_B0 := B0_9.lies
  have z9_B1 := B1_9.lies
  have z9_SA := SA_9.lies
  have z9_SB := SB_9.lies
  have z9_SC := SC_9.lies
  clear K8 f8 G0_8 G1_8 B0_8 B1_8 k9
  go_wp2_with fail
  refine (parts_at E b kA kB kC _ f9 SA_9 SB_9 SC_9 G0_9 G1_9 (by omega) (by omega) (by omega) (by omega)).mono ?_
  rintro e w10 ⟨rfl, f10, k10⟩
  have K10 : Kept b w w10 := Kept.trans K9 k10
  have G0_10 : Arr 0 (row 54 at0) w10 := G0_9.kept k10 (by omega)
  have G1_10 : Arr 1 (row 10 yr0) w10 := G1_9.kept k10 (by omega)
  have B0_10 : Arr w.heap.size [.int .i64 p.1, .int .i64 p.2.1, .int .i64 p.2.2] w10 := B0_9.kept k10 (Nat.ne_of_gt y1_BF)
  have B1_10 : Arr (w.heap.size + 1) [.int .i64 0, .int .i64 0, .int .i64 0] w10 := B1_9.kept k10 (Nat.ne_of_gt y2_BF)
  have SA_10 : Mp kA 50 (triM E.P 6 0) w10 := SA_9.kept k10 (by omega)
  have SB_10 : Mp kB 50 (triM E.D 6 0) w10 := SB_9.kept k10 (by omega)
  have SC_10 : Mp kC 50 (triM E.Q 6 0) w10 := SC_9.kept k10 (by omega)
  have z10_BF := f10.lies
  have z10_G0 := G0_10.lies
  have z10_G1 := G1_10.lies
  have z10_B0 := B0_10.lies
  have z10_B1 := B1_10.lies
  have z10_SA := SA_10.lies
  have z10_SB := SB_10.lies
  have z10_SC := SC_10.lies
  clear K9 f9 G0_9 G1_9 B0_9 B1_9 SA_9 SB_9 SC_9 k10
  go_wp2_with fail
  refine (Mul_any b false ((E.st 7 0).1) E.s _ f10).mono ?_
  rintro e w11 ⟨rfl, f11, k11⟩
  rw [E.V.h1] at f11 ⊢
  dsimp only at f11 ⊢
  have K11 : Kept b w w11 := Kept.trans K10 k11
  have G0_11 : Arr 0 (row 54 at0) w11 := G0_10.kept k11 (by omega)
  have G1_11 : Arr 1 (row 10 yr0) w11 := G1_10.kept k11 (by omega)
  have B0_11 : Arr w.heap.size [.int .i64 p.1, .int .i64 p.2.1, .int .i64 p.2.2] w11 := B0_10.kept k11 (Nat.ne_of_gt y1_BF)
  have B1_11 : Arr (w.heap.size + 1) [.int .i64 0, .int .i64 0, .int .i64 0] w11 := B1_10.kept k11 (Nat.ne_of_gt y2_BF)
  have SA_11 : Mp kA 50 (triM E.P 6 0) w11 := SA_10.kept k11 (by omega)
  have SB_11 : Mp kB 50 (triM E.D 6 0) w11 := SB_10.kept k11 (by omega)
  have SC_11 : Mp kC 50 (triM E.Q 6 0) w11 := SC_10.kept k11 (by omega)
  have z11 := B1_11.lies
  clear K10 f10 G0_10 G1_10 B0_10 B1_10 SA_10 SB_10 SC_10 k11
  go_wp2_with fail
  refine (Mul_any b false ((E.st 7 0).2.1) E.c _ f11).mono ?_
  rintro e w12 ⟨rfl, f12, k12⟩
  rw [E.V.h2] at f12 ⊢
  dsimp only at f12 ⊢
  have K12 : Kept b w w12 := Kept.trans K11 k12
  have G0_12 : Arr 0 (row 54 at0) w12 := G0_11.kept k12 (by omega)
  have G1_12 : Arr 1 (row 10 yr0) w12 := G1_11.kept k12 (by omega)
  have B0_12 : Arr w.heap.size [.int .i64 p.1, .int .i64 p.2.1, .int .i64 p.2.2] w12 := B0_11.kept k12 (Nat.ne_of_gt y1_BF)
  have B1_12 : Arr (w.heap.size + 1) [.int .i64 0, .int .i64 0, .int .i64 0] w12 := B1_11.kept k12 (Nat.ne_of_gt y2_BF)
  have SA_12 : Mp kA 50 (triM E.P 6 0) w12 := SA_11.kept k12 (by omega)
  have SB_12 : Mp kB 50 (triM E.D 6 0) w12 := SB_11.kept k12 (by omega)
  have SC_12 : Mp kC 50 (triM E.Q 6 0) w12 := SC_11.kept k12 (by omega)
  have z12 := B1_12.lies
  clear K11 f11 G0_11 G1_11 B0_11 B1_11 SA_11 SB_11 SC_11 k12
  go_wp2_with fail
  refine (Add_any b false E.V.v1 E.V.v2 _ f12).mono ?_
  rintro e w13 ⟨rfl, f13, k13⟩
  rw [E.V.h3] at f13 ⊢
  dsimp only at f13 ⊢
  have K13 : Kept b w w13 := Kept.trans K12 k13
  have G0_13 : Arr 0 (row 54 at0) w13 := G0_12.kept k13 (by omega)
  have G1_13 : Arr 1 (row 10 yr0) w13 := G1_12.kept k13 (by omega)
  have B0_13 : Arr w.heap.size [.int .i64 p.1, .int .i64 p.2.1, .int .i64 p.2.2] w13 := B0_12.kept k13 (Nat.ne_of_gt y1_BF)
  have B1_13 : Arr (w.heap.size + 1) [.int .i64 0, .int .i64 0, .int .i64 0] w13 := B1_12.kept k13 (Nat.ne_of_gt y2_BF)
  have SA_13 : Mp kA 50 (triM E.P 6 0) w13 := SA_12.kept k13 (by omega)
  have SB_13 : Mp kB 50 (triM E.D 6 0) w13 := SB_12.kept k13 (by omega)
  have SC_13 : Mp kC 50 (triM E.Q 6 0) w13 := SC_12.kept k13 (by omega)
  have z13 := B1_13.lies
  clear K12 f12 G0_12 G1_12 B0_12 B1_12 SA_12 SB_12 SC_12 k13
  go_wp2_with fail
  refine (Mul_any b false E.V.a E.u _ f13).mono ?_
  rintro e w14 ⟨rfl, f14, k14⟩
  rw [E.V.h4] at f14 ⊢
  dsimp only at f14 ⊢
  have K14 : Kept b w w14 := Kept.trans K13 k14
  have G0_14 : Arr 0 (row 54 at0) w14 := G0_13.kept k14 (by omega)
  have G1_14 : Arr 1 (row 10 yr0) w14 := G1_13.kept k14 (by omega)
  have B0_14 : Arr w.heap.size [.int .i64 p.1, .int .i64 p.2.1, .int .i64 p.2.2] w14 := B0_13.kept k14 (Nat.ne_of_gt y1_BF)
  have B1_14 : Arr (w.heap.size + 1) [.int .i64 0, .int .i64 0, .int .i64 0] w14 := B1_13.kept k14 (Nat.ne_of_gt y2_BF)
  have SA_14 : Mp kA 50 (triM E.P 6 0) w14 := SA_13.kept k14 (by omega)
  have SB_14 : Mp kB 50 (triM E.D 6 0) w14 := SB_13.kept k14 (by omega)
  have SC_14 : Mp kC 50 (triM E.Q 6 0) w14 := SC_13.kept k14 (by omega)
  have z14 := B1_14.lies
  clear K13 f13 G0_13 G1_13 B0_13 B1_13 SA_13 SB_13 SC_13 k14
  go_wp2_with fail
  refine (Mul_any b false ((E.st 7 0).2.2) E.v _ f14).mono ?_
  rintro e w15 ⟨rfl, f15, k15⟩
  rw [E.V.h5] at f15 ⊢
  dsimp only at f15 ⊢
  have K15 : Kept b w w15 := Kept.trans K14 k15
  have G0_15 : Arr 0 (row 54 at0) w15 := G0_14.kept k15 (by omega)
  have G1_15 : Arr 1 (row 10 yr0) w15 := G1_14.kept k15 (by omega)
  have B0_15 : Arr w.heap.size [.int .i64 p.1, .int .i64 p.2.1, .int .i64 p.2.2] w15 := B0_14.kept k15 (Nat.ne_of_gt y1_BF)
  have B1_15 : Arr (w.heap.size + 1) [.int .i64 0, .int .i64 0, .int .i64 0] w15 := B1_14.kept k15 (Nat.ne_of_gt y2_BF)
  have SA_15 : Mp kA 50 (triM E.P 6 0) w15 := SA_14.kept k15 (by omega)
  have SB_15 : Mp kB 50 (triM E.D 6 0) w15 := SB_14.kept k15 (by omega)
  have SC_15 : Mp kC 50 (triM E.Q 6 0) w15 := SC_14.kept k15 (by omega)
  have z15 := B1_15.lies
  clear K14 f14 G0_14 G1_14 B0_14 B1_14 SA_14 SB_14 SC_14 k15
  go_wp2_with fail
  refine (Sub_any b false E.V.v4 E.V.v5 _ f15).mono ?_
  rintro e w16 ⟨rfl, f16, k16⟩
  rw [E.V.h6] at f16 ⊢
  dsimp only at f16 ⊢
  have K16 : Kept b w w16 := Kept.trans K15 k16
  have G0_16 : Arr 0 (row 54 at0) w16 := G0_15.kept k16 (by omega)
  have G1_16 : Arr 1 (row 10 yr0) w16 := G1_15.kept k16 (by omega)
  have B0_16 : Arr w.heap.size [.int .i64 p.1, .int .i64 p.2.1, .int .i64 p.2.2] w16 := B0_15.kept k16 (Nat.ne_of_gt y1_BF)
  have B1_16 : Arr (w.heap.size + 1) [.int .i64 0, .int .i64 0, .int .i64 0] w16 := B1_15.kept k16 (Nat.ne_of_gt y2_BF)
  have SA_16 : Mp kA 50 (triM E.P 6 0) w16 := SA_15.kept k16 (by omega)
  have SB_16 : Mp kB 50 (triM E.D 6 0) w16 := SB_15.kept k16 (by omega)
  have SC_16 : Mp kC 50 (triM E.Q 6 0) w16 := SC_15.kept k16 (by omega)
  have z16 := B1_16.lies
  clear K15 f15 G0_15 G1_15 B0_15 B1_15 SA_15 SB_15 SC_15 k16
  go_wp2_with fail
  refine (Mul_any b false E.V.a E.v _ f16).mono ?_
  rintro e w17 ⟨rfl, f17, k17⟩
  rw [E.V.h7] at f17 ⊢
  dsimp only at f17 ⊢
  have K17 : Kept b w w17 := Kept.trans K16 k17
  have G0_17 : Arr 0 (row 54 at0) w17 := G0_16.kept k17 (by omega)
  have G1_17 : Arr 1 (row 10 yr0) w17 := G1_16.kept k17 (by omega)
  have B0_17 : Arr w.heap.size [.int .i64 p.1, .int .i64 p.2.1, .int .i64 p.2.2] w17 := B0_16.kept k17 (Nat.ne_of_gt y1_BF)
  have B1_17 : Arr (w.heap.size + 1) [.int .i64 0, .int .i64 0, .int .i64 0] w17 := B1_16.kept k17 (Nat.ne_of_gt y2_BF)
  have SA_17 : Mp kA 50 (triM E.P 6 0) w17 := SA_16.kept k17 (by omega)
  have SB_17 : Mp kB 50 (triM E.D 6 0) w17 := SB_16.kept k17 (by omega)
  have SC_17 : Mp kC 50 (triM E.Q 6 0) w17 := SC_16.kept k17 (by omega)
  have z17 := B1_17.lies
  clear K16 f16 G0_16 G1_16 B0_16 B1_16 SA_16 SB_16 SC_16 k17
  go_wp2_with fail
  refine (Mul_any b false ((E.st 7 0).2.2) E.u _ f17).mono ?_
  rintro e w18 ⟨rfl, f18, k18⟩
  rw [E.V.h8] at f18 ⊢
  dsimp only at f18 ⊢
  have K18 : Kept b w w18 := Kept.trans K17 k18
  have G0_18 : Arr 0 (row 54 at0) w18 := G0_17.kept k18 (by omega)
  have G1_18 : Arr 1 (row 10 yr0) w18 := G1_17.kept k18 (by omega)
  have B0_18 : Arr w.heap.size [.int .i64 p.1, .int .i64 p.2.1, .int .i64 p.2.2] w18 := B0_17.kept k18 (Nat.ne_of_gt y1_BF)
  have B1_18 : Arr (w.heap.size + 1) [.int .i64 0, .int .i64 0, .int .i64 0] w18 := B1_17.kept k18 (Nat.ne_of_gt y2_BF)
  have SA_18 : Mp kA 50 (triM E.P 6 0) w18 := SA_17.kept k18 (by omega)
  have SB_18 : Mp kB 50 (triM E.D 6 0) w18 := SB_17.kept k18 (by omega)
  have SC_18 : Mp kC 50 (triM E.Q 6 0) w18 := SC_17.kept k18 (by omega)
  have z18 := B1_18.lies
  clear K17 f17 G0_17 G1_17 B0_17 B1_17 SA_17 SB_17 SC_17 k18
  go_wp2_with fail
  refine (Add_any b false E.V.v7 E.V.v8 _ f18).mono ?_
  rintro e w19 ⟨rfl, f19, k19⟩
  rw [E.V.h9] at f19 ⊢
  dsimp only at f19 ⊢
  have K19 : Kept b w w19 := Kept.trans K18 k19
  have G0_19 : Arr 0 (row 54 at0) w19 := G0_18.kept k19 (by omega)
  have G1_19 : Arr 1 (row 10 yr0) w19 := G1_18.kept k19 (by omega)
  have B0_19 : Arr w.heap.size [.int .i64 p.1, .int .i64 p.2.1, .int .i64 p.2.2] w19 := B0_18.kept k19 (Nat.ne_of_gt y1_BF)
  have B1_19 : Arr (w.heap.size + 1) [.int .i64 0, .int .i64 0, .int .i64 0] w19 := B1_18.kept k19 (Nat.ne_of_gt y2_BF)
  have SA_19 : Mp kA 50 (triM E.P 6 0) w19 := SA_18.kept k19 (by omega)
  have SB_19 : Mp kB 50 (triM E.D 6 0) w19 := SB_18.kept k19 (by omega)
  have SC_19 : Mp kC 50 (triM E.Q 6 0) w19 := SC_18.kept k19 (by omega)
  have z19 := B1_19.lies
  clear K18 f18 G0_18 G1_18 B0_18 B1_18 SA_18 SB_18 SC_18 k19
  go_wp2_with fail
  refine (Mul_any b false ((E.st 7 0).1) E.c _ f19).mono ?_
  rintro e w20 ⟨rfl, f20, k20⟩
  rw [E.V.h10] at f20 ⊢
  dsimp only at f20 ⊢
  have K20 : Kept b w w20 := Kept.trans K19 k20
  have G0_20 : Arr 0 (row 54 at0) w20 := G0_19.kept k20 (by omega)
  have G1_20 : Arr 1 (row 10 yr0) w20 := G1_19.kept k20 (by omega)
  have B0_20 : Arr w.heap.size [.int .i64 p.1, .int .i64 p.2.1, .int .i64 p.2.2] w20 := B0_19.kept k20 (Nat.ne_of_gt y1_BF)
  have B1_20 : Arr (w.heap.size + 1) [.int .i64 0, .int .i64 0, .int .i64 0] w20 := B1_19.kept k20 (Nat.ne_of_gt y2_BF)
  have SA_20 : Mp kA 50 (triM E.P 6 0) w20 := SA_19.kept k20 (by omega)
  have SB_20 : Mp kB 50 (triM E.D 6 0) w20 := SB_19.kept k20 (by omega)
  have SC_20 : Mp kC 50 (triM E.Q 6 0) w20 := SC_19.kept k20 (by omega)
  have z20 := B1_20.lies
  clear K19 f19 G0_19 G1_19 B0_19 B1_19 SA_19 SB_19 SC_19 k20
  go_wp2_with fail
  refine (Mul_any b false ((E.st 7 0).2.1) E.s _ f20).mono ?_
  rintro e w21 ⟨rfl, f21, k21⟩
  rw [E.V.h11] at f21 ⊢
  dsimp only at f21 ⊢
  have K21 : Kept b w w21 := Kept.trans K20 k21
  have G0_21 : Arr 0 (row 54 at0) w21 := G0_20.kept k21 (by omega)
  have G1_21 : Arr 1 (row 10 yr0) w21 := G1_20.kept k21 (by omega)
  have B0_21 : Arr w.heap.size [.int .i64 p.1, .int .i64 p.2.1, .int .i64 p.2.2] w21 := B0_20.kept k21 (Nat.ne_of_gt y1_BF)
  have B1_21 : Arr (w.heap.size + 1) [.int .i64 0, .int .i64 0, .int .i64 0] w21 := B1_20.kept k21 (Nat.ne_of_gt y2_BF)
  have SA_21 : Mp kA 50 (triM E.P 6 0) w21 := SA_20.kept k21 (by omega)
  have SB_21 : Mp kB 50 (triM E.D 6 0) w21 := SB_20.kept k21 (by omega)
  have SC_21 : Mp kC 50 (triM E.Q 6 0) w21 := SC_20.kept k21 (by omega)
  have z21 := B1_21.lies
  clear K20 f20 G0_20 G1_20 B0_20 B1_20 SA_20 SB_20 SC_20 k21
  go_wp2_with fail
  refine (Sub_any b false E.V.v10 E.V.v11 _ f21).mono ?_
  rintro e w22 ⟨rfl, f22, k22⟩
  rw [E.V.h12] at f22 ⊢
  dsimp only at f22 ⊢
  have K22 : Kept b w w22 := Kept.trans K21 k22
  have G0_22 : Arr 0 (row 54 at0) w22 := G0_21.kept k22 (by omega)
  have G1_22 : Arr 1 (row 10 yr0) w22 := G1_21.kept k22 (by omega)
  have B0_22 : Arr w.heap.size [.int .i64 p.1, .int .i64 p.2.1, .int .i64 p.2.2] w22 := B0_21.kept k22 (Nat.ne_of_gt y1_BF)
  have B1_22 : Arr (w.heap.size + 1) [.int .i64 0, .int .i64 0, .int .i64 0] w22 := B1_21.kept k22 (Nat.ne_of_gt y2_BF)
  have SA_22 : Mp kA 50 (triM E.P 6 0) w22 := SA_21.kept k22 (by omega)
  have SB_22 : Mp kB 50 (triM E.D 6 0) w22 := SB_21.kept k22 (by omega)
  have SC_22 : Mp kC 50 (triM E.Q 6 0) w22 := SC_21.kept k22 (by omega)
  have z22 := B1_22.lies
  clear K21 f21 G0_21 G1_21 B0_21 B1_21 SA_21 SB_21 SC_21 k22
  have c23_B1_0 : w22.cell? ⟨w.heap.size + 1, 0, none⟩ = some (.int .i64 0) := B1_22.c 0 (of_decide_eq_true rfl)
  have c23_B1_1 : w22.cell? ⟨w.heap.size + 1, 1, none⟩ = some (.int .i64 0) := B1_22.c 1 (of_decide_eq_true rfl)
  have c23_B1_2 : w22.cell? ⟨w.heap.size + 1, 2, none⟩ = some (.int .i64 0) := B1_22.c 2 (of_decide_eq_true rfl)
  have g23_B1_0 := B1_22.f 0 (of_decide_eq_true rfl)
  have g23_B1_1 := B1_22.f 1 (of_decide_eq_true rfl)
  have g23_B1_2 := B1_22.f 2 (of_decide_eq_true rfl)
  go_wp2_with (with_reducible refine post_stop ?_)
  refine Stop.mk ?_
  clear c23_B1_0 c23_B1_1 c23_B1_2 g23_B1_0 g23_B1_1 g23_B1_2
  refine bodyPost_ret (v := .agg #[.int .i64 x, .int .i64 y, .int .i64 z]) (results_arr Tryz.results133 (((B1_22.put 0 (of_decide_eq_true rfl) (.int .i64 x) [.int .i64 x, .int .i64 0, .int .i64 0] rfl).put 1 (of_decide_eq_true rfl) (.int .i64 y) [.int .i64 x, .int .i64 y, .int .i64 0] rfl).put 2 (of_decide_eq_true rfl) (.int .i64 z) [.int .i64 x, .int .i64 y, .int .i64 z] rfl) rfl (by kernel_rfl) (by kernel_rfl)) rfl ?_
  exact ⟨rfl, (((f22.new (w.heap.size + 1) 0 (Nat.ne_of_lt y2_BF) (.int .i64 x)).new (w.heap.size + 1) 1 (Nat.ne_of_lt y2_BF) (.int .i64 y)).new (w.heap.size + 1) 2 (Nat.ne_of_lt y2_BF) (.int .i64 z)), (((K22.new _ _ (by omega) _).new _ _ (by omega) _).new _ _ (by omega) _)⟩
end Go.Proofs.YtoadcnhcfodkgaaGreatDoor
