/-
A part.
A part.
A part.
A part.
A part.
A part.
-/
import Derived.Handy
import Derived.Deep.RegionHeld3
import Derived.Test.YtbophanlmkbfeaaGreatDoorHC26
import Derived.Test.YtbophanlmkbfeaaGreatDoorHC29
import Derived.Test.YtbophanlmkbfeaaGreatDoorHC30
import Derived.Test.YtbophanlmkbfeaaGreatDoorHC19
import Derived.Test.YtbophanlmkbfeaaGreatDoorHC25
import Derived.Test.YtbophanlmkbfeaaGreatDoorHC09
import Derived.Test.YtbophanlmkbfeaaGreatDoorHC12
import Derived.Test.YtbophanlmkbfeaaGreatDoorHC10
import Derived.Test.YtbophanlmkbfeaaGreatDoorHC11
import Derived.Test.YtbophanlmkbfeaaGreatDoorHC15
import Derived.Test.YtbophanlmkbfeaaGreatDoorHC16
import Derived.Test.YtbophanlmkbfeaaGreatDoorHC17
import Derived.Test.YtbophanlmkbfeaaGreatDoorHC18
import Derived.Test.YtbophanlmkbfeaaGreatDoorHC20
import Derived.Test.YtbophanlmkbfeaaGreatDoorHC22
namespace Go.Proofs.YtbophanlmkbfeaaGreatDoor
open Go.RowKit
set_option maxRecDepth 100000
set_option maxHeartbeats 20000000
theorem earth_good (b : Nat) (p : V3) (t r x y z : Int) (E : EarthT p t r x y z) (w : World) (hw : Fl b false w) (hG0 : Arr 0 (row 54 at0) w) (hG1 : Arr 1 (row 10 yr0) w) (hb : 1 < b) (hr : vNormS false p = (r, false)) (c1 : ¬ r < 6597069766656) (c2 : ¬ r > 10995116277760) (ht : cRight t = true) :
    Calls Tryz.prog 102 #[.pointer (some ⟨b, 0, none⟩), .agg #[.int .i64 p.1, .int .i64 p.2.1, .int .i64 p.2.2], .int .i64 t] w fun e w' => e = .returned (.agg #[.int .i64 x, .int .i64 y, .int .i64 z]) ∧ Fl b false w' ∧ Kept b w w' := by
 have hl := hw.lies
 have l_0 := hG0.lies
 have l_1 := hG1.lies
 go_enter Tryz.func102, Tryz.ntmps102
 have y1_BF := hw.lies
 have y1_G0 := hG0.lies
 have y1_G1 := hG1.lies
 have y2_BF : b < w.heap.size + 1 := (Nat.lt_succ_of_lt hw.lies)
 have y2_G0 : 0 < w.heap.size + 1 := (Nat.lt_succ_of_lt hG0.lies)
 have y2_G1 : 1 < w.heap.size + 1 := (Nat.lt_succ_of_lt hG1.lies)
 have y2_B0 : w.heap.size < w.heap.size + 1 := by omega
 go_wp2_with fail
 refine (vNorm_any b false p _ ((hw.alloc _).alloc _)).mono ?_
 rintro e w1 ⟨rfl, f1, k1⟩
 rw [hr] at f1 ⊢
 dsimp only at f1 ⊢
 have K1 : Kept b w w1 := Kept.trans (((Kept.refl b w).al _).al _) k1
 have G0_1 := ((hG0.alloc _).alloc _).kept k1 (by omega)
 have G1_1 := ((hG1.alloc _).alloc _).kept k1 (by omega)
 have B0_1 := ((Arr_at _ w.heap.size [.int .i64 p.1, .int .i64 p.2.1, .int .i64 p.2.2] _ (by simp)).alloc _).kept k1 (zG y1_BF)
 have B1_1 := (Arr_at _ (w.heap.size + 1) [.int .i64 0, .int .i64 0, .int .i64 0] _ (by simp)).kept k1 (zG y2_BF)
 have z1 := B1_1.lies
 clear hG0 hG1 k1
 go_wp2_with fail
 refine (cRight_any t _).mono ?_
 rintro e w2 ⟨rfl, k2⟩
 rw [ht]
 try dsimp only
 have K2 : Kept b w w2 := Kept.trans K1 (Kept.of_below k2)
 have BF_2 := f1.below k2
 have G0_2 := G0_1.below k2
 have G1_2 := G1_1.below k2
 have B0_2 := B0_1.below k2
 have B1_2 := B1_1.below k2
 have z2 := B1_2.lies
 clear K1 f1 G0_1 G1_1 B0_1 B1_1 k2
 have c3_B0_0 : w2.cell? ⟨w.heap.size, 0, none⟩ = some (.int .i64 p.1) := B0_2.c 0 (zD rfl)
 have c3_B0_1 : w2.cell? ⟨w.heap.size, 1, none⟩ = some (.int .i64 p.2.1) := B0_2.c 1 (zD rfl)
 go_wp2_with fail
 refine (vNorm_any b false (p.1, p.2.1, 0) _ BF_2).mono ?_
 rintro e w3 ⟨rfl, f3, k3⟩
 rw [E.hw] at f3 ⊢
 dsimp only at f3 ⊢
 have K3 := Kept.trans K2 k3
 have G0_3 := G0_2.kept k3 (by omega)
 have G1_3 := G1_2.kept k3 (by omega)
 have B0_3 := B0_2.kept k3 (zG y1_BF)
 have B1_3 := B1_2.kept k3 (zG y2_BF)
 have z3 := B1_3.lies
 clear c3_B0_0 c3_B0_1 K2 BF_2 G0_2 G1_2 B0_2 B1_2 k3
 have c4_B0_2 : w3.cell? ⟨w.heap.size, 2, none⟩ = some (.int .i64 p.2.2) := B0_3.c 2 (zD rfl)
 go_wp2_with fail
 refine (Div_any b false p.2.2 r _ f3).mono ?_
 rintro e w4 ⟨rfl, f4, k4⟩
 rw [E.hc] at f4 ⊢
 dsimp only at f4 ⊢
 have K4 := Kept.trans K3 k4
 have G0_4 := G0_3.kept k4 (by omega)
 have G1_4 := G1_3.kept k4 (by omega)
 have B0_4 := B0_3.kept k4 (zG y1_BF)
 have B1_4 := B1_3.kept k4 (zG y2_BF)
 have z4 := B1_4.lies
 clear c4_B0_2 K3 f3 G0_3 G1_3 B0_3 B1_3 k4
 go_wp2_with fail
 refine (Div_any b false E.wn r _ f4).mono ?_
 rintro e w5 ⟨rfl, f5, k5⟩
 rw [E.hs] at f5 ⊢
 dsimp only at f5 ⊢
 have K5 := Kept.trans K4 k5
 have G0_5 := G0_4.kept k5 (by omega)
 have G1_5 := G1_4.kept k5 (by omega)
 have B0_5 := B0_4.kept k5 (zG y1_BF)
 have B1_5 := B1_4.kept k5 (zG y2_BF)
 have z5 := B1_5.lies
 clear K4 f4 G0_4 G1_4 B0_4 B1_4 k5
 have c6_B0_0 : w5.cell? ⟨w.heap.size, 0, none⟩ = some (.int .i64 p.1) := B0_5.c 0 (zD rfl)
 have c6_B0_1 : w5.cell? ⟨w.heap.size, 1, none⟩ = some (.int .i64 p.2.1) := B0_5.c 1 (zD rfl)
 have c6_B0_2 : w5.cell? ⟨w.heap.size, 2, none⟩ = some (.int .i64 p.2.2) := B0_5.c 2 (zD rfl)
 go_wp2_with fail
 refine (lon_any b false p E.wn _ f5 _ _ rfl E.hl).mono ?_
 rintro e w6 ⟨rfl, f6, k6⟩
 rw [E.hl] at f6 ⊢
 dsimp only at f6 ⊢
 have K6 := Kept.trans K5 k6
 have G0_6 := G0_5.kept k6 (by omega)
 have G1_6 := G1_5.kept k6 (by omega)
 have B0_6 := B0_5.kept k6 (zG y1_BF)
 have B1_6 := B1_5.kept k6 (zG y2_BF)
 have z6 := B1_6.lies
 clear c6_B0_0 c6_B0_1 c6_B0_2 K5 f5 G0_5 G1_5 B0_5 B1_5 k6
 go_wp2_with fail
 refine (Div_any b false 7005208482886 r _ f6).mono ?_
 rintro e w7 ⟨rfl, f7, k7⟩
 rw [E.hq] at f7 ⊢
 dsimp only at f7 ⊢
 have K7 := Kept.trans K6 k7
 have G0_7 := G0_6.kept k7 (by omega)
 have G1_7 := G1_6.kept k7 (by omega)
 have B0_7 := B0_6.kept k7 (zG y1_BF)
 have B1_7 := B1_6.kept k7 (zG y2_BF)
 have z7 := B1_7.lies
 clear K6 f6 G0_6 G1_6 B0_6 B1_6 k7
 go_wp2_with fail
 refine (rounds_any b E.u E.v E.g _ f7 E.g0 E.g7 E.W).mono ?_
 rintro e w8 ⟨rfl, f8, k8⟩
 have K8 := Kept.trans K7 k8
 have G0_8 := G0_7.kept k8 (by omega)
 have G1_8 := G1_7.kept k8 (by omega)
 have B0_8 := B0_7.kept k8 (zG y1_BF)
 have B1_8 := B1_7.kept k8 (zG y2_BF)
 have z8_BF := f8.lies
 have z8_G0 := G0_8.lies
 have z8_G1 := G1_8.lies
 have z8_B0 := B0_8.lies
 have z8_B1 := B1_8.lies
 clear K7 f7 G0_7 G1_7 B0_7 B1_7 k8
 go_wp2_with fail
 refine (shapes_any b E.c E.s E.P E.D E.Q E.Z E.ic E.is _ f8).mono ?_
 rintro e w9 ⟨kA, kB, kC, rfl, f9, SA_9, SB_9, SC_9, gA, gB, gC, nAB, nAC, nBC, k9⟩
 have K9 := Kept.trans K8 k9
 have G0_9 := G0_8.kept k9 (by omega)
 have G1_9 := G1_8.kept k9 (by omega)
 have B0_9 := B0_8.kept k9 (zG y1_BF)
 have B1_9 := B1_8.kept k9 (zG y2_BF)
 have z9_BF := f9.lies
 have z9_G0 := G0_9.lies
 have z9_G1 := G1_9.lies
 have z9_B0 := B0_9.lies
 have z9_B1 := B1_9.lies
 have z9_SA := SA_9.lies
 have z9_SB := SB_9.lies
 have z9_SC := SC_9.lies
 clear K8 f8 G0_8 G1_8 B0_8 B1_8 k9
 go_wp2_with fail
 refine (parts_at E b kA kB kC _ f9 SA_9 SB_9 SC_9 G0_9 G1_9 (by omega) (by omega) (by omega) (by omega)).mono ?_
 rintro e w10 ⟨rfl, f10, k10⟩
 have K10 := Kept.trans K9 k10
 have G0_10 := G0_9.kept k10 (by omega)
 have G1_10 := G1_9.kept k10 (by omega)
 have B0_10 := B0_9.kept k10 (zG y1_BF)
 have B1_10 := B1_9.kept k10 (zG y2_BF)
 have SA_10 : Mp kA 50 (triM E.P 6 0) w10 := SA_9.kept k10 (by omega)
 have SB_10 : Mp kB 50 (triM E.D 6 0) w10 := SB_9.kept k10 (by omega)
 have SC_10 : Mp kC 50 (triM E.Q 6 0) w10 := SC_9.kept k10 (by omega)
 have z10_BF := f10.lies
 have z10_G0 := G0_10.lies
 have z10_G1 := G1_10.lies
 have z10_B0 := B0_10.lies
 have z10_B1 := B1_10.lies
 have z10_SA := SA_10.lies
 have z10_SB := SB_10.lies
 have z10_SC := SC_10.lies
 clear K9 f9 G0_9 G1_9 B0_9 B1_9 SA_9 SB_9 SC_9 k10
 go_wp2_with fail
 refine (Mul_any b false ((E.st 7 0).1) E.s _ f10).mono ?_
 rintro e w11 ⟨rfl, f11, k11⟩
 rw [E.V.h1] at f11 ⊢
 dsimp only at f11 ⊢
 have K11 := Kept.trans K10 k11
 have G0_11 := G0_10.kept k11 (by omega)
 have G1_11 := G1_10.kept k11 (by omega)
 have B0_11 := B0_10.kept k11 (zG y1_BF)
 have B1_11 := B1_10.kept k11 (zG y2_BF)
 have SA_11 : Mp kA 50 (triM E.P 6 0) w11 := SA_10.kept k11 (by omega)
 have SB_11 : Mp kB 50 (triM E.D 6 0) w11 := SB_10.kept k11 (by omega)
 have SC_11 : Mp kC 50 (triM E.Q 6 0) w11 := SC_10.kept k11 (by omega)
 have z11 := B1_11.lies
 clear K10 f10 G0_10 G1_10 B0_10 B1_10 SA_10 SB_10 SC_10 k11
 go_wp2_with fail
 refine (Mul_any b false ((E.st 7 0).2.1) E.c _ f11).mono ?_
 rintro e w12 ⟨rfl, f12, k12⟩
 rw [E.V.h2] at f12 ⊢
 dsimp only at f12 ⊢
 have K12 := Kept.trans K11 k12
 have G0_12 := G0_11.kept k12 (by omega)
 have G1_12 := G1_11.kept k12 (by omega)
 have B0_12 := B0_11.kept k12 (zG y1_BF)
 have B1_12 := B1_11.kept k12 (zG y2_BF)
 have SA_12 : Mp kA 50 (triM E.P 6 0) w12 := SA_11.kept k12 (by omega)
 have SB_12 : Mp kB 50 (triM E.D 6 0) w12 := SB_11.kept k12 (by omega)
 have SC_12 : Mp kC 50 (triM E.Q 6 0) w12 := SC_11.kept k12 (by omega)
 have z12 := B1_12.lies
 clear K11 f11 G0_11 G1_11 B0_11 B1_11 SA_11 SB_11 SC_11 k12
 go_wp2_with fail
 refine (Add_any b false E.V.v1 E.V.v2 _ f12).mono ?_
 rintro e w13 ⟨rfl, f13, k13⟩
 rw [E.V.h3] at f13 ⊢
 dsimp only at f13 ⊢
 have K13 := Kept.trans K12 k13
 have G0_13 := G0_12.kept k13 (by omega)
 have G1_13 := G1_12.kept k13 (by omega)
 have B0_13 := B0_12.kept k13 (zG y1_BF)
 have B1_13 := B1_12.kept k13 (zG y2_BF)
 have SA_13 : Mp kA 50 (triM E.P 6 0) w13 := SA_12.kept k13 (by omega)
 have SB_13 : Mp kB 50 (triM E.D 6 0) w13 := SB_12.kept k13 (by omega)
 have SC_13 : Mp kC 50 (triM E.Q 6 0) w13 := SC_12.kept k13 (by omega)
 have z13 := B1_13.lies
 clear K12 f12 G0_12 G1_12 B0_12 B1_12 SA_12 SB_12 SC_12 k13
 go_wp2_with fail
 refine (Mul_any b false E.V.a E.u _ f13).mono ?_
 rintro e w14 ⟨rfl, f14, k14⟩
 rw [E.V.h4] at f14 ⊢
 dsimp only at f14 ⊢
 have K14 := Kept.trans K13 k14
 have G0_14 := G0_13.kept k14 (by omega)
 have G1_14 := G1_13.kept k14 (by omega)
 have B0_14 := B0_13.kept k14 (zG y1_BF)
 have B1_14 := B1_13.kept k14 (zG y2_BF)
 have SA_14 : Mp kA 50 (triM E.P 6 0) w14 := SA_13.kept k14 (by omega)
 have SB_14 : Mp kB 50 (triM E.D 6 0) w14 := SB_13.kept k14 (by omega)
 have SC_14 : Mp kC 50 (triM E.Q 6 0) w14 := SC_13.kept k14 (by omega)
 have z14 := B1_14.lies
 clear K13 f13 G0_13 G1_13 B0_13 B1_13 SA_13 SB_13 SC_13 k14
 go_wp2_with fail
 refine (Mul_any b false ((E.st 7 0).2.2) E.v _ f14).mono ?_
 rintro e w15 ⟨rfl, f15, k15⟩
 rw [E.V.h5] at f15 ⊢
 dsimp only at f15 ⊢
 have K15 := Kept.trans K14 k15
 have G0_15 := G0_14.kept k15 (by omega)
 have G1_15 := G1_14.kept k15 (by omega)
 have B0_15 := B0_14.kept k15 (zG y1_BF)
 have B1_15 := B1_14.kept k15 (zG y2_BF)
 have SA_15 : Mp kA 50 (triM E.P 6 0) w15 := SA_14.kept k15 (by omega)
 have SB_15 : Mp kB 50 (triM E.D 6 0) w15 := SB_14.kept k15 (by omega)
 have SC_15 : Mp kC 50 (triM E.Q 6 0) w15 := SC_14.kept k15 (by omega)
 have z15 := B1_15.lies
 clear K14 f14 G0_14 G1_14 B0_14 B1_14 SA_14 SB_14 SC_14 k15
 go_wp2_with fail
 refine (Sub_any b false E.V.v4 E.V.v5 _ f15).mono ?_
 rintro e w16 ⟨rfl, f16, k16⟩
 rw [E.V.h6] at f16 ⊢
 dsimp only at f16 ⊢
 have K16 := Kept.trans K15 k16
 have G0_16 := G0_15.kept k16 (by omega)
 have G1_16 := G1_15.kept k16 (by omega)
 have B0_16 := B0_15.kept k16 (zG y1_BF)
 have B1_16 := B1_15.kept k16 (zG y2_BF)
 have SA_16 : Mp kA 50 (triM E.P 6 0) w16 := SA_15.kept k16 (by omega)
 have SB_16 : Mp kB 50 (triM E.D 6 0) w16 := SB_15.kept k16 (by omega)
 have SC_16 : Mp kC 50 (triM E.Q 6 0) w16 := SC_15.kept k16 (by omega)
 have z16 := B1_16.lies
 clear K15 f15 G0_15 G1_15 B0_15 B1_15 SA_15 SB_15 SC_15 k16
 go_wp2_with fail
 refine (Mul_any b false E.V.a E.v _ f16).mono ?_
 rintro e w17 ⟨rfl, f17, k17⟩
 rw [E.V.h7] at f17 ⊢
 dsimp only at f17 ⊢
 have K17 := Kept.trans K16 k17
 have G0_17 := G0_16.kept k17 (by omega)
 have G1_17 := G1_16.kept k17 (by omega)
 have B0_17 := B0_16.kept k17 (zG y1_BF)
 have B1_17 := B1_16.kept k17 (zG y2_BF)
 have SA_17 : Mp kA 50 (triM E.P 6 0) w17 := SA_16.kept k17 (by omega)
 have SB_17 : Mp kB 50 (triM E.D 6 0) w17 := SB_16.kept k17 (by omega)
 have SC_17 : Mp kC 50 (triM E.Q 6 0) w17 := SC_16.kept k17 (by omega)
 have z17 := B1_17.lies
 clear K16 f16 G0_16 G1_16 B0_16 B1_16 SA_16 SB_16 SC_16 k17
 go_wp2_with fail
 refine (Mul_any b false ((E.st 7 0).2.2) E.u _ f17).mono ?_
 rintro e w18 ⟨rfl, f18, k18⟩
 rw [E.V.h8] at f18 ⊢
 dsimp only at f18 ⊢
 have K18 := Kept.trans K17 k18
 have G0_18 := G0_17.kept k18 (by omega)
 have G1_18 := G1_17.kept k18 (by omega)
 have B0_18 := B0_17.kept k18 (zG y1_BF)
 have B1_18 := B1_17.kept k18 (zG y2_BF)
 have SA_18 : Mp kA 50 (triM E.P 6 0) w18 := SA_17.kept k18 (by omega)
 have SB_18 : Mp kB 50 (triM E.D 6 0) w18 := SB_17.kept k18 (by omega)
 have SC_18 : Mp kC 50 (triM E.Q 6 0) w18 := SC_17.kept k18 (by omega)
 have z18 := B1_18.lies
 clear K17 f17 G0_17 G1_17 B0_17 B1_17 SA_17 SB_17 SC_17 k18
 go_wp2_with fail
 refine (Add_any b false E.V.v7 E.V.v8 _ f18).mono ?_
 rintro e w19 ⟨rfl, f19, k19⟩
 rw [E.V.h9] at f19 ⊢
 dsimp only at f19 ⊢
 have K19 := Kept.trans K18 k19
 have G0_19 := G0_18.kept k19 (by omega)
 have G1_19 := G1_18.kept k19 (by omega)
 have B0_19 := B0_18.kept k19 (zG y1_BF)
 have B1_19 := B1_18.kept k19 (zG y2_BF)
 have SA_19 : Mp kA 50 (triM E.P 6 0) w19 := SA_18.kept k19 (by omega)
 have SB_19 : Mp kB 50 (triM E.D 6 0) w19 := SB_18.kept k19 (by omega)
 have SC_19 : Mp kC 50 (triM E.Q 6 0) w19 := SC_18.kept k19 (by omega)
 have z19 := B1_19.lies
 clear K18 f18 G0_18 G1_18 B0_18 B1_18 SA_18 SB_18 SC_18 k19
 go_wp2_with fail
 refine (Mul_any b false ((E.st 7 0).1) E.c _ f19).mono ?_
 rintro e w20 ⟨rfl, f20, k20⟩
 rw [E.V.h10] at f20 ⊢
 dsimp only at f20 ⊢
 have K20 := Kept.trans K19 k20
 have G0_20 := G0_19.kept k20 (by omega)
 have G1_20 := G1_19.kept k20 (by omega)
 have B0_20 := B0_19.kept k20 (zG y1_BF)
 have B1_20 := B1_19.kept k20 (zG y2_BF)
 have SA_20 : Mp kA 50 (triM E.P 6 0) w20 := SA_19.kept k20 (by omega)
 have SB_20 : Mp kB 50 (triM E.D 6 0) w20 := SB_19.kept k20 (by omega)
 have SC_20 : Mp kC 50 (triM E.Q 6 0) w20 := SC_19.kept k20 (by omega)
 have z20 := B1_20.lies
 clear K19 f19 G0_19 G1_19 B0_19 B1_19 SA_19 SB_19 SC_19 k20
 go_wp2_with fail
 refine (Mul_any b false ((E.st 7 0).2.1) E.s _ f20).mono ?_
 rintro e w21 ⟨rfl, f21, k21⟩
 rw [E.V.h11] at f21 ⊢
 dsimp only at f21 ⊢
 have K21 := Kept.trans K20 k21
 have G0_21 := G0_20.kept k21 (by omega)
 have G1_21 := G1_20.kept k21 (by omega)
 have B0_21 := B0_20.kept k21 (zG y1_BF)
 have B1_21 := B1_20.kept k21 (zG y2_BF)
 have SA_21 : Mp kA 50 (triM E.P 6 0) w21 := SA_20.kept k21 (by omega)
 have SB_21 : Mp kB 50 (triM E.D 6 0) w21 := SB_20.kept k21 (by omega)
 have SC_21 : Mp kC 50 (triM E.Q 6 0) w21 := SC_20.kept k21 (by omega)
 have z21 := B1_21.lies
 clear K20 f20 G0_20 G1_20 B0_20 B1_20 SA_20 SB_20 SC_20 k21
 go_wp2_with fail
 refine (Sub_any b false E.V.v10 E.V.v11 _ f21).mono ?_
 rintro e w22 ⟨rfl, f22, k22⟩
 rw [E.V.h12] at f22 ⊢
 dsimp only at f22 ⊢
 have K22 := Kept.trans K21 k22
 have G0_22 := G0_21.kept k22 (by omega)
 have G1_22 := G1_21.kept k22 (by omega)
 have B0_22 := B0_21.kept k22 (zG y1_BF)
 have B1_22 := B1_21.kept k22 (zG y2_BF)
 have SA_22 : Mp kA 50 (triM E.P 6 0) w22 := SA_21.kept k22 (by omega)
 have SB_22 : Mp kB 50 (triM E.D 6 0) w22 := SB_21.kept k22 (by omega)
 have SC_22 : Mp kC 50 (triM E.Q 6 0) w22 := SC_21.kept k22 (by omega)
 have z22 := B1_22.lies
 clear K21 f21 G0_21 G1_21 B0_21 B1_21 SA_21 SB_21 SC_21 k22
 have c23_B1_0 : w22.cell? ⟨w.heap.size + 1, 0, none⟩ = some (.int .i64 0) := B1_22.c 0 (zD rfl)
 have c23_B1_1 : w22.cell? ⟨w.heap.size + 1, 1, none⟩ = some (.int .i64 0) := B1_22.c 1 (zD rfl)
 have c23_B1_2 : w22.cell? ⟨w.heap.size + 1, 2, none⟩ = some (.int .i64 0) := B1_22.c 2 (zD rfl)
 have g23_B1_0 := B1_22.f 0 (zD rfl)
 have g23_B1_1 := B1_22.f 1 (zD rfl)
 have g23_B1_2 := B1_22.f 2 (zD rfl)
 go_wp2_with (with_reducible refine post_stop ?_)
 refine Stop.mk ?_
 clear c23_B1_0 c23_B1_1 c23_B1_2 g23_B1_0 g23_B1_1 g23_B1_2
 refine bodyPost_ret (v := .agg #[.int .i64 x, .int .i64 y, .int .i64 z]) (results_arr Tryz.results102 (((B1_22.put 0 (zD rfl) (.int .i64 x) [.int .i64 x, .int .i64 0, .int .i64 0] rfl).put 1 (zD rfl) (.int .i64 y) [.int .i64 x, .int .i64 y, .int .i64 0] rfl).put 2 (zD rfl) (.int .i64 z) [.int .i64 x, .int .i64 y, .int .i64 z] rfl) rfl (by kernel_rfl) (by kernel_rfl)) rfl ?_
 exact ⟨rfl, (((f22.new (w.heap.size + 1) 0 (zL y2_BF) (.int .i64 x)).new (w.heap.size + 1) 1 (zL y2_BF) (.int .i64 y)).new (w.heap.size + 1) 2 (zL y2_BF) (.int .i64 z)), (((K22.new _ _ (by omega) _).new _ _ (by omega) _).new _ _ (by omega) _)⟩
theorem earth_ba (b : Nat) (bad nb : Bool) (p : V3) (t r : Int) (w : World) (hw : Fl b bad w) (hr : vNormS bad p = (r, nb)) (c1 : r < 6597069766656) :
    Calls Tryz.prog 102 #[.pointer (some ⟨b, 0, none⟩), .agg #[.int .i64 p.1, .int .i64 p.2.1, .int .i64 p.2.2], .int .i64 t] w fun e w' => e = .returned (.agg #[.int .i64 0, .int .i64 0, .int .i64 0]) ∧ Fl b true w' ∧ Kept b w w' := by
 have hl := hw.lies
 go_enter Tryz.func102, Tryz.ntmps102
 have y1_BF := hw.lies
 have y2_BF : b < w.heap.size + 1 := (Nat.lt_succ_of_lt hw.lies)
 have y2_B0 : w.heap.size < w.heap.size + 1 := by omega
 go_wp2_with fail
 refine (vNorm_any b bad p _ ((hw.alloc _).alloc _)).mono ?_
 rintro e w1 ⟨rfl, f1, k1⟩
 rw [hr] at f1 ⊢
 dsimp only at f1 ⊢
 have K1 : Kept b w w1 := Kept.trans (((Kept.refl b w).al _).al _) k1
 have B0_1 := ((Arr_at _ w.heap.size [.int .i64 p.1, .int .i64 p.2.1, .int .i64 p.2.2] _ (by simp)).alloc _).kept k1 (zG y1_BF)
 have B1_1 := (Arr_at _ (w.heap.size + 1) [.int .i64 0, .int .i64 0, .int .i64 0] _ (by simp)).kept k1 (zG y2_BF)
 have z1 := B1_1.lies
 clear k1
 go_wp2_with fail
 refine (Fail_any b nb  _ f1).mono ?_
 rintro e w2 ⟨rfl, f2, k2⟩
 have K2 := Kept.trans K1 k2
 have B0_2 := B0_1.kept k2 (zG y1_BF)
 have B1_2 := B1_1.kept k2 (zG y2_BF)
 have z2 := B1_2.lies
 clear K1 f1 B0_1 B1_1 k2
 have c3_B1_0 : w2.cell? ⟨w.heap.size + 1, 0, none⟩ = some (.int .i64 0) := B1_2.c 0 (zD rfl)
 have c3_B1_1 : w2.cell? ⟨w.heap.size + 1, 1, none⟩ = some (.int .i64 0) := B1_2.c 1 (zD rfl)
 have c3_B1_2 : w2.cell? ⟨w.heap.size + 1, 2, none⟩ = some (.int .i64 0) := B1_2.c 2 (zD rfl)
 have g3_B1_0 := B1_2.f 0 (zD rfl)
 have g3_B1_1 := B1_2.f 1 (zD rfl)
 have g3_B1_2 := B1_2.f 2 (zD rfl)
 go_wp2_with (with_reducible refine post_stop ?_)
 refine Stop.mk ?_
 clear c3_B1_0 c3_B1_1 c3_B1_2 g3_B1_0 g3_B1_1 g3_B1_2
 refine bodyPost_ret (v := .agg #[.int .i64 0, .int .i64 0, .int .i64 0]) (results_arr Tryz.results102 (((B1_2.put 0 (zD rfl) (.int .i64 0) [.int .i64 0, .int .i64 0, .int .i64 0] rfl).put 1 (zD rfl) (.int .i64 0) [.int .i64 0, .int .i64 0, .int .i64 0] rfl).put 2 (zD rfl) (.int .i64 0) [.int .i64 0, .int .i64 0, .int .i64 0] rfl) rfl (by kernel_rfl) (by kernel_rfl)) rfl ?_
 exact ⟨rfl, (((f2.new (w.heap.size + 1) 0 (zL y2_BF) (.int .i64 0)).new (w.heap.size + 1) 1 (zL y2_BF) (.int .i64 0)).new (w.heap.size + 1) 2 (zL y2_BF) (.int .i64 0)), (((K2.new _ _ (by omega) _).new _ _ (by omega) _).new _ _ (by omega) _)⟩
theorem earth_bb (b : Nat) (bad nb : Bool) (p : V3) (t r : Int) (w : World) (hw : Fl b bad w) (hr : vNormS bad p = (r, nb)) (c1 : ¬ r < 6597069766656) (c2 : r > 10995116277760) :
    Calls Tryz.prog 102 #[.pointer (some ⟨b, 0, none⟩), .agg #[.int .i64 p.1, .int .i64 p.2.1, .int .i64 p.2.2], .int .i64 t] w fun e w' => e = .returned (.agg #[.int .i64 0, .int .i64 0, .int .i64 0]) ∧ Fl b true w' ∧ Kept b w w' := by
 have hl := hw.lies
 go_enter Tryz.func102, Tryz.ntmps102
 have y1_BF := hw.lies
 have y2_BF : b < w.heap.size + 1 := (Nat.lt_succ_of_lt hw.lies)
 have y2_B0 : w.heap.size < w.heap.size + 1 := by omega
 go_wp2_with fail
 refine (vNorm_any b bad p _ ((hw.alloc _).alloc _)).mono ?_
 rintro e w1 ⟨rfl, f1, k1⟩
 rw [hr] at f1 ⊢
 dsimp only at f1 ⊢
 have K1 : Kept b w w1 := Kept.trans (((Kept.refl b w).al _).al _) k1
 have B0_1 := ((Arr_at _ w.heap.size [.int .i64 p.1, .int .i64 p.2.1, .int .i64 p.2.2] _ (by simp)).alloc _).kept k1 (zG y1_BF)
 have B1_1 := (Arr_at _ (w.heap.size + 1) [.int .i64 0, .int .i64 0, .int .i64 0] _ (by simp)).kept k1 (zG y2_BF)
 have z1 := B1_1.lies
 clear k1
 go_wp2_with fail
 refine (Fail_any b nb  _ f1).mono ?_
 rintro e w2 ⟨rfl, f2, k2⟩
 have K2 := Kept.trans K1 k2
 have B0_2 := B0_1.kept k2 (zG y1_BF)
 have B1_2 := B1_1.kept k2 (zG y2_BF)
 have z2 := B1_2.lies
 clear K1 f1 B0_1 B1_1 k2
 have c3_B1_0 : w2.cell? ⟨w.heap.size + 1, 0, none⟩ = some (.int .i64 0) := B1_2.c 0 (zD rfl)
 have c3_B1_1 : w2.cell? ⟨w.heap.size + 1, 1, none⟩ = some (.int .i64 0) := B1_2.c 1 (zD rfl)
 have c3_B1_2 : w2.cell? ⟨w.heap.size + 1, 2, none⟩ = some (.int .i64 0) := B1_2.c 2 (zD rfl)
 have g3_B1_0 := B1_2.f 0 (zD rfl)
 have g3_B1_1 := B1_2.f 1 (zD rfl)
 have g3_B1_2 := B1_2.f 2 (zD rfl)
 go_wp2_with (with_reducible refine post_stop ?_)
 refine Stop.mk ?_
 clear c3_B1_0 c3_B1_1 c3_B1_2 g3_B1_0 g3_B1_1 g3_B1_2
 refine bodyPost_ret (v := .agg #[.int .i64 0, .int .i64 0, .int .i64 0]) (results_arr Tryz.results102 (((B1_2.put 0 (zD rfl) (.int .i64 0) [.int .i64 0, .int .i64 0, .int .i64 0] rfl).put 1 (zD rfl) (.int .i64 0) [.int .i64 0, .int .i64 0, .int .i64 0] rfl).put 2 (zD rfl) (.int .i64 0) [.int .i64 0, .int .i64 0, .int .i64 0] rfl) rfl (by kernel_rfl) (by kernel_rfl)) rfl ?_
 exact ⟨rfl, (((f2.new (w.heap.size + 1) 0 (zL y2_BF) (.int .i64 0)).new (w.heap.size + 1) 1 (zL y2_BF) (.int .i64 0)).new (w.heap.size + 1) 2 (zL y2_BF) (.int .i64 0)), (((K2.new _ _ (by omega) _).new _ _ (by omega) _).new _ _ (by omega) _)⟩
theorem earth_bc (b : Nat) (bad nb : Bool) (p : V3) (t r : Int) (w : World) (hw : Fl b bad w) (hr : vNormS bad p = (r, nb)) (c1 : ¬ r < 6597069766656) (c2 : ¬ r > 10995116277760) (ht : cRight t = false) :
    Calls Tryz.prog 102 #[.pointer (some ⟨b, 0, none⟩), .agg #[.int .i64 p.1, .int .i64 p.2.1, .int .i64 p.2.2], .int .i64 t] w fun e w' => e = .returned (.agg #[.int .i64 0, .int .i64 0, .int .i64 0]) ∧ Fl b true w' ∧ Kept b w w' := by
 have hl := hw.lies
 go_enter Tryz.func102, Tryz.ntmps102
 have y1_BF := hw.lies
 have y2_BF : b < w.heap.size + 1 := (Nat.lt_succ_of_lt hw.lies)
 have y2_B0 : w.heap.size < w.heap.size + 1 := by omega
 go_wp2_with fail
 refine (vNorm_any b bad p _ ((hw.alloc _).alloc _)).mono ?_
 rintro e w1 ⟨rfl, f1, k1⟩
 rw [hr] at f1 ⊢
 dsimp only at f1 ⊢
 have K1 : Kept b w w1 := Kept.trans (((Kept.refl b w).al _).al _) k1
 have B0_1 := ((Arr_at _ w.heap.size [.int .i64 p.1, .int .i64 p.2.1, .int .i64 p.2.2] _ (by simp)).alloc _).kept k1 (zG y1_BF)
 have B1_1 := (Arr_at _ (w.heap.size + 1) [.int .i64 0, .int .i64 0, .int .i64 0] _ (by simp)).kept k1 (zG y2_BF)
 have z1 := B1_1.lies
 clear k1
 go_wp2_with fail
 refine (cRight_any t _).mono ?_
 rintro e w2 ⟨rfl, k2⟩
 rw [ht]
 try dsimp only
 have K2 : Kept b w w2 := Kept.trans K1 (Kept.of_below k2)
 have BF_2 := f1.below k2
 have B0_2 := B0_1.below k2
 have B1_2 := B1_1.below k2
 have z2 := B1_2.lies
 clear K1 f1 B0_1 B1_1 k2
 go_wp2_with fail
 refine (Fail_any b nb  _ BF_2).mono ?_
 rintro e w3 ⟨rfl, f3, k3⟩
 have K3 := Kept.trans K2 k3
 have B0_3 := B0_2.kept k3 (zG y1_BF)
 have B1_3 := B1_2.kept k3 (zG y2_BF)
 have z3 := B1_3.lies
 clear K2 BF_2 B0_2 B1_2 k3
 have c4_B1_0 : w3.cell? ⟨w.heap.size + 1, 0, none⟩ = some (.int .i64 0) := B1_3.c 0 (zD rfl)
 have c4_B1_1 : w3.cell? ⟨w.heap.size + 1, 1, none⟩ = some (.int .i64 0) := B1_3.c 1 (zD rfl)
 have c4_B1_2 : w3.cell? ⟨w.heap.size + 1, 2, none⟩ = some (.int .i64 0) := B1_3.c 2 (zD rfl)
 have g4_B1_0 := B1_3.f 0 (zD rfl)
 have g4_B1_1 := B1_3.f 1 (zD rfl)
 have g4_B1_2 := B1_3.f 2 (zD rfl)
 go_wp2_with (with_reducible refine post_stop ?_)
 refine Stop.mk ?_
 clear c4_B1_0 c4_B1_1 c4_B1_2 g4_B1_0 g4_B1_1 g4_B1_2
 refine bodyPost_ret (v := .agg #[.int .i64 0, .int .i64 0, .int .i64 0]) (results_arr Tryz.results102 (((B1_3.put 0 (zD rfl) (.int .i64 0) [.int .i64 0, .int .i64 0, .int .i64 0] rfl).put 1 (zD rfl) (.int .i64 0) [.int .i64 0, .int .i64 0, .int .i64 0] rfl).put 2 (zD rfl) (.int .i64 0) [.int .i64 0, .int .i64 0, .int .i64 0] rfl) rfl (by kernel_rfl) (by kernel_rfl)) rfl ?_
 exact ⟨rfl, (((f3.new (w.heap.size + 1) 0 (zL y2_BF) (.int .i64 0)).new (w.heap.size + 1) 1 (zL y2_BF) (.int .i64 0)).new (w.heap.size + 1) 2 (zL y2_BF) (.int .i64 0)), (((K3.new _ _ (by omega) _).new _ _ (by omega) _).new _ _ (by omega) _)⟩
end Go.Proofs.YtbophanlmkbfeaaGreatDoor
namespace Go.Proofs.YtbophanlmkbfeaaGreatDoor
open Go.RowKit
theorem earth_any (b : Nat) (bad : Bool) (p : V3) (t : Int) (w : World) (hw : Fl b bad w) (hG0 : Arr 0 (row 54 at0) w) (hG1 : Arr 1 (row 10 yr0) w) (hb : 1 < b) :
    Calls Tryz.prog 102 #[.pointer (some ⟨b, 0, none⟩), .agg #[.int .i64 p.1, .int .i64 p.2.1, .int .i64 p.2.2], .int .i64 t] w fun e w' => e = .returned (.agg #[.int .i64 (earS bad p t).1.1, .int .i64 (earS bad p t).1.2.1, .int .i64 (earS bad p t).1.2.2]) ∧ Fl b (earS bad p t).2 w' ∧ Kept b w w' := by
 cases bad with
 | true =>
  rw [earS_true]
  exact earth_ba b true true p t 0 w hw (vNorm_true p) (by decide)
 | false =>
  by_cases h : earIn p t
  ·obtain ⟨⟨E⟩, _⟩ := ear_at h
   rw [earS_in h]
   obtain ⟨g, r0, r1, t0, t1⟩ := h
   exact earth_good b p t _ _ _ _ E w hw hG0 hG1 hb (Prod.ext rfl g) (by omega) (by omega) (cRight_in t0 t1)
  ·rw [earS_out h]
   have e : vNormS false p = ((earR p).1, (earR p).2) := rfl
   by_cases c1 : (earR p).1 < 6597069766656
   ·exact earth_ba b false _ p t _ w hw e c1
   by_cases c2 : (earR p).1 > 10995116277760
   ·exact earth_bb b false _ p t _ w hw e c1 c2
   have g : (earR p).2 = false := by
    cases q : (earR p).2 with
    | false => rfl
    | true => have z : (earR p).1 = 0 := normS_bad false _ _ _ q; omega
   exact earth_bc b false _ p t _ w hw e c1 c2 (cRight_out (fun k => h ⟨g, by omega, by omega, k.1, k.2⟩))
end Go.Proofs.YtbophanlmkbfeaaGreatDoor
namespace Go.Proofs.YtbophanlmkbfeaaGreatDoor
open Go.RowKit
def earT (bad : Bool) (x : Tup 3 × Int) : Tup 3 × Bool := (((earS bad (x.1.1, x.1.2.1, x.1.2.2.1) x.2).1.1, (earS bad (x.1.1, x.1.2.1, x.1.2.2.1) x.2).1.2.1, (earS bad (x.1.1, x.1.2.1, x.1.2.2.1) x.2).1.2.2, ()), (earS bad (x.1.1, x.1.2.1, x.1.2.2.1) x.2).2)
theorem earth_d (rest : List Value) (h : All2 (G2 (fun _ => 0)) [rI 3, uI] rest) : ∃ x, (then' (cT 3) (lone' cI)).enc x = rest := by
 match rest, h with
 | [a, b], ⟨ha, ⟨y, hb⟩, _⟩ =>
  obtain ⟨x, ex⟩ := cT_of (τ := fun _ => 0) 3 a ha
  refine ⟨(x, y), ?_⟩
  rw [hb, ← ex]
  rfl
def tgEarth : ACt Tryz.prog nq := rowF false (go_of Tryz.func102 (by kernel_rfl) (by kernel_rfl)) (op_of (f := 102) (sa := [rI 3, uI]) (sr := rI 3) (fb := unkB) (d := then' (cT 3) (lone' cI)) (g := earT) (c := cT 3) (fun b bad x w hg hb hw => earth_any b bad (x.1.1, x.1.2.1, x.1.2.2.1) x.2 w hw hg.1 hg.2 hb) earth_d (fun τ y => cT_g 3 y) (fun x => by unfold earT; rw [earS_true]) (fun τ _ _ => fbg τ _)) (by decide +kernel)
theorem gSky_op : ∃ g, FOp Tryz.prog nq 51 [rI 3, uI] (rI 3) unkB g := flow_ax (tbl := [tkTurn, tgCos, tgSin, tMul, tAdd, tSub, tgEarth]) (dirty := fun _ => []) (n := 8) nq_one xmixA Tryz.func51 rfl (by decide +kernel)
theorem sky_ex : ∃ g, FlowOk Tryz.prog 51 (then' (cT 3) (lone' cI)) g (cT 3) := (flowOk_of gSky_op (then' (cT 3) (lone' cI)) (cT 3) (fun x => ⟨cT_g 3 x.1, ⟨x.2, rfl⟩, trivial⟩) (fun _ v h => cT_of 3 v h)).imp fun _ h => h.1
end Go.Proofs.YtbophanlmkbfeaaGreatDoor
namespace Go.Proofs.YtbophanlmkbfeaaGreatDoor
open Go.RowKit
def scaleCt : Ct Tryz.prog := flowCt Tryz.prog 108 (then' (cT 3) (lone' cI)) (fun bad x => (((vScaleS bad (x.1.1, x.1.2.1, x.1.2.2.1) x.2).1.1, (vScaleS bad (x.1.1, x.1.2.1, x.1.2.2.1) x.2).1.2.1, (vScaleS bad (x.1.1, x.1.2.1, x.1.2.2.1) x.2).1.2.2, ()), (vScaleS bad (x.1.1, x.1.2.1, x.1.2.2.1) x.2).2)) (cT 3) (go_of Tryz.func108 (by kernel_rfl) (by kernel_rfl)) (fun b bad x w _ _ hw => vScale_any b bad (x.1.1, x.1.2.1, x.1.2.2.1) x.2 w hw)
def clampV (v : Int) : Int := if (if 219902325555 < v then 219902325555 else v) > -219902325555 then (if 219902325555 < v then 219902325555 else v) else -219902325555
def rateT (d : Dri) : V3 := (d.2.2.2.2.2.1, d.2.2.2.2.2.2.1, d.2.2.2.2.2.2.2.1)
def dipV (bad : Bool) (d : Dri) : Tup 3 × Bool := if !d.1 then ((0, 0, 0, ()), bad) else ((clampV (vScaleS bad (rateT d) (-274877906944)).1.1, clampV (vScaleS bad (rateT d) (-274877906944)).1.2.1, clampV (vScaleS bad (rateT d) (-274877906944)).1.2.2, ()), (vScaleS bad (rateT d) (-274877906944)).2)
theorem dip_fx : FlowOk Tryz.prog 138 (lone' cDri) (fun bad x => dipV bad x) (cT 3) := flow_sx (tbl := [scaleCt]) (dirty := fun _ => []) (n := 6) xmixA Tryz.func138 rfl (fun bad x Post => by
    refine Eq.trans (b := ?m) ?x (Eq.symm ?y)
    case y => unfold dipV; simp only [← vif_b (K := PK (cT 3) Post)]; exact rfl
    case x => kernel_rfl)
end Go.Proofs.YtbophanlmkbfeaaGreatDoor
namespace Go.Proofs.YtbophanlmkbfeaaGreatDoor
open Go.RowKit
def plOf (p : Tup 6) : Pl := ⟨p.1, p.2.1, p.2.2.1, p.2.2.2.1, p.2.2.2.2.1, p.2.2.2.2.2.1⟩
def plT (p : Pl) : Tup 6 := (p.mode, p.calm, p.good, p.miss, p.lost, p.faults, ())
def snOf (s : See) : Sn := ⟨s.1, s.2.1, s.2.2.1, s.2.2.2.1, s.2.2.2.2.1, s.2.2.2.2.2.1, s.2.2.2.2.2.2.1, s.2.2.2.2.2.2.2⟩
def nextT (x : Tup 6 × See) : Tup 6 := plT (nextW (plOf x.1) (snOf x.2))
theorem next_ok : PureOk Tryz.prog 60 (then' (cT 6) (lone' cSee)) nextT (cT 6) := fun x w hw => next_fx (plOf x.1, snOf x.2) w hw
theorem right_ok : PureOk Tryz.prog 22 (lone' cI) cRight cB := fun x w _ => cRight_any x w
def countsT (x : Tup 4 × Tup 3) : Tup 4 × Tup 3 := cntT (tlC (qT x.1) (mT x.2))
theorem counts_ok : PureOk Tryz.prog 62 (then' (cT 4) (lone' (cT 3))) countsT (two' (cT 4) (cT 3)) := tcounts_fx
def tlOf (x : Tel) : Tl := ⟨x.1, x.2.1, x.2.2.1, x.2.2.2.1, x.2.2.2.2.1, x.2.2.2.2.2.1, x.2.2.2.2.2.2.1, x.2.2.2.2.2.2.2.1, x.2.2.2.2.2.2.2.2.1, x.2.2.2.2.2.2.2.2.2.1, x.2.2.2.2.2.2.2.2.2.2.1, x.2.2.2.2.2.2.2.2.2.2.2.1, x.2.2.2.2.2.2.2.2.2.2.2.2.1⟩
def writeT (x : Tel) : Fra × Bool := (tlW (tlOf x), tlOk (tlOf x))
theorem write_ok : PureOk Tryz.prog 64 (lone' (cT 13)) writeT (two' cFra cB) := fun x w _ => twrite_any (tlOf x) w
def wrapT (x : Fra) : ByteArray × Bool := if 0 ≤ x.1 ∧ x.1 ≤ 255 ∧ x.2.size ≤ 64 then (⟨(wrapL (UInt8.ofNat x.1.toNat) x.2.data.toList).toArray⟩, true) else (noBytes, false)
theorem wrap_ok : PureOk Tryz.prog 65 (lone' cFra) wrapT (two' cS cB) := fun x w _ => by
 by_cases h : 0 ≤ x.1 ∧ x.1 ≤ 255 ∧ x.2.size ≤ 64
 ·have e : ((UInt8.ofNat x.1.toNat).toNat : Int) = x.1 := by
   rw [ofNat_toNat (by omega)]
   omega
  have h1 := wrap_yes (UInt8.ofNat x.1.toNat) x.2 w h.2.2
  rw [e] at h1
  refine Calls.mono h1 ?_
  rintro _ w' ⟨s, rfl, hs, hb⟩
  refine ⟨?_, hb⟩
  have hs : s = ⟨(wrapL (UInt8.ofNat x.1.toNat) x.2.data.toList).toArray⟩ := by
   rw [← hs]
  unfold wrapT
  rw [if_pos h, hs]
  rfl
 ·refine Calls.mono (wrap_no x.1 x.2 w h) ?_
  rintro _ w' ⟨rfl, hb⟩
  refine ⟨?_, hb⟩
  unfold wrapT
  rw [if_neg h]
  rfl
set_option maxHeartbeats 2000000 in
set_option maxRecDepth 100000 in
theorem sread_none (k : Int) (s : ByteArray) (w : World) (hf : formOk k s = false) :
    Calls Tryz.prog 83 #[.agg #[.int .i64 k, .string s]] w fun e w' => e = .returned (.tuple #[rdV (0, 0, 0, 0, 0), .bool false]) ∧ Below w.heap.size w w' := by
 by_cases hm : s.size ≤ maxLen
 ·exact sread_not k s w hm hf
 have hm : (281474976706560 : Int) ≤ (s.size : Int) := by unfold maxLen at hm; omega
 have hc := scounts_any k
 by_cases c0 : nCounts k = 0
 ·rw [c0] at hc
  go_enter Tryz.func83, Tryz.ntmps83
  go_wp2_with fail
  refine (hc _).mono ?_
  rintro e X ⟨rfl, rfl⟩
  go_wp2_with (with_reducible refine post_stop ?_)
  exact ⟨bodyPost_ret (v := .tuple #[rdV (0, 0, 0, 0, 0), .bool false]) (by unfold rdV; simp [results_cell_tmp Tryz.results83, asAddr, go_sem]) rfl ⟨rfl, bel_al (bel_al (Below.refl _ _) _) _⟩⟩
 ·have hn : 0 ≤ nCounts k ∧ nCounts k ≤ 6 := by unfold nCounts; split <;> (try split) <;> omega
  have hs : ((s.size : Int) != 6 + nCounts k * 2) = true := by
   simp
   omega
  have c1 : (nCounts k == 0) = false := by simpa using c0
  clear hf c0 hm
  generalize nCounts k = n at *
  go_enter Tryz.func83, Tryz.ntmps83
  go_wp2_with fail
  refine (hc _).mono ?_
  rintro e X ⟨rfl, rfl⟩
  go_wp2_with (with_reducible refine post_stop ?_)
  exact ⟨bodyPost_ret (v := .tuple #[rdV (0, 0, 0, 0, 0), .bool false]) (by unfold rdV; simp [results_cell_tmp Tryz.results83, asAddr, go_sem]) rfl ⟨rfl, bel_al (bel_al (Below.refl _ _) _) _⟩⟩
def readT (x : Fra) : Tup 5 × Bool := (((readR x.1 x.2).1, (readR x.1 x.2).2.1, (readR x.1 x.2).2.2.1, (readR x.1 x.2).2.2.2.1, (readR x.1 x.2).2.2.2.2, ()), readOk x.1 x.2)
theorem read_ok : PureOk Tryz.prog 83 (lone' cFra) readT (two' (cT 5) cB) := fun x w hw => by
 cases hf : formOk x.1 x.2
 ·refine Calls.mono (sread_none x.1 x.2 w hf) ?_
  rintro _ w' ⟨rfl, hb⟩
  refine ⟨?_, hb⟩
  have h0 : readOk x.1 x.2 = false := by unfold readOk; rw [hf]; rfl
  have h1 : readR x.1 x.2 = (0, 0, 0, 0, 0) := by unfold readR; rw [h0]; rfl
  unfold readT
  rw [h0, h1]
  rfl
 ·exact sread_form x.1 x.2 w hw hf
def freshT (x : Tup 5 × Int) : Bool := if x.1.2.1 ≤ x.2 then decide (IntKind.u64.wrap (IntKind.u64.wrap x.2 - IntKind.u64.wrap x.1.2.1) ≤ 500) else false
theorem fresh_ok : PureOk Tryz.prog 84 (then' (cT 5) (lone' cI)) freshT cB := pure_sx (tbl := []) (dirty := fun _ => []) (n := 4) xmixA Tryz.func84 rfl (fun x Post => by
    refine Eq.trans (b := ?m) ?x (Eq.symm ?y)
    case y => unfold freshT; simp only [← vif_le (K := PJ cB Post)]; exact rfl
    case x => kernel_rfl)
def oreadT (x : Fra) : Tup 9 × Int := (((ordR x.1 x.2).1.1, (ordR x.1 x.2).1.2.1, (ordR x.1 x.2).1.2.2.1, (ordR x.1 x.2).1.2.2.2.1, (ordR x.1 x.2).1.2.2.2.2.1, (ordR x.1 x.2).1.2.2.2.2.2.1, (ordR x.1 x.2).1.2.2.2.2.2.2.1, (ordR x.1 x.2).1.2.2.2.2.2.2.2.1, (ordR x.1 x.2).1.2.2.2.2.2.2.2.2, ()), (ordR x.1 x.2).2)
theorem oread_ok : PureOk Tryz.prog 85 (lone' cFra) oreadT (two' (cT 9) cI) := fun x w hw => oread_any x.1 x.2 w hw
structure FsIs (F : Fs) : Prop where
 ok : FsOk F
 right : F.right = cRight
 next : F.next = nextT
 counts : F.counts = countsT
 write : F.write = writeT
 wrap : F.wrap = wrapT
 read : F.read = readT
 fresh : F.fresh = freshT
 oread : F.oread = oreadT
 dip : F.dip = dipV
def stepF (F : Fs) (c : Cra) (t : Int) (b : ByteArray) : Cra × ByteArray := stepW F (fun _ => takeW F c t b) c t b
theorem stepF_at {F : Fs} (h : FsOk F) (c : Cra) (t : Int) (b : ByteArray) (hs : c.2.2.1.size + b.size ≤ 5000) (w : World) (hw : GW w) :
    Calls Tryz.prog 9 #[cCra.enc c, .int .i64 t, .string b] w fun e w' => e = .returned (.tuple #[cCra.enc (stepF F c t b).1, .string (stepF F c t b).2]) ∧ Below w.heap.size w w' :=
 step_at F h (c, t, b) (takeW F c t b) (fun w hw => takes_at F h (c, t, b) hs w hw) w hw
end Go.Proofs.YtbophanlmkbfeaaGreatDoor
namespace Go.Proofs.YtbophanlmkbfeaaGreatDoor
open Go.RowKit
structure PlI (q : Pl) : Prop where
 c : I64 q.calm
 g : I64 q.good
 i : I64 q.miss
 l : I64 q.lost
 m0 : 0 ≤ q.mode
 m3 : q.mode ≤ 3
 f0 : 0 ≤ q.faults
 f9 : q.faults ≤ 15
theorem i64_0 : I64 0 := ⟨by decide, by decide⟩
theorem or_all : ∀ n : Fin 16, ∀ x ∈ ([1, 2, 4, 8] : List Int), 0 ≤ bits .or .i64 (n.val : Int) x ∧ bits .or .i64 (n.val : Int) x ≤ 15 := by decide +kernel
theorem or_at {f x : Int} (h0 : 0 ≤ f) (h1 : f ≤ 15) (hx : x ∈ ([1, 2, 4, 8] : List Int)) : 0 ≤ bits .or .i64 f x ∧ bits .or .i64 f x ≤ 15 := by
 obtain ⟨n, rfl⟩ : ∃ n : Nat, f = n := ⟨f.toNat, by omega⟩
 exact or_all ⟨n, by omega⟩ x hx
theorem cnt_i {n : Int} (b : Bool) : I64 (cntW n b) := by
 unfold cntW
 cases b
 ·exact i64_0
 ·simp only [if_true]
  split
  ·exact ⟨by decide, by decide⟩
  ·rw [IntKind.wrap_i64]
   exact ⟨by omega, by omega⟩
theorem PlI.go {q : Pl} (h : PlI q) (k : Int) (h0 : 0 ≤ k) (h3 : k ≤ 3) : PlI (goS k q) := ⟨i64_0, i64_0, i64_0, i64_0, h0, h3, h.f0, h.f9⟩
theorem PlI.fail {q : Pl} (h : PlI q) (x : Int) (hx : x ∈ ([1, 2, 4, 8] : List Int)) : PlI (failS x q) := by
 have u := or_at h.f0 h.f9 hx
 exact ⟨i64_0, i64_0, i64_0, i64_0, show (0 : Int) ≤ 1 by decide, show (1 : Int) ≤ 3 by decide, u.1, u.2⟩
theorem PlI.step {q : Pl} (h : PlI q) (s : Sn) : PlI (nextW q s) := by
 unfold nextW nextV
 split
 ·exact h.go 3 (by decide) (by decide)
 split
 ·unfold safeS; split
  ·exact ⟨i64_0, i64_0, i64_0, i64_0, Int.le_refl 0, show (0 : Int) ≤ 3 by decide, Int.le_refl 0, show (0 : Int) ≤ 15 by decide⟩
  ·exact h
 split
 ·unfold detW; split
  ·exact h.go 1 (by decide) (by decide)
  ·exact ⟨cnt_i _, h.g, h.i, h.l, h.m0, h.m3, h.f0, h.f9⟩
 split
 ·cases s.gap
  ·simp only [cond_false]
   unfold coaW
   cases (s.gyro && !s.slow)
   ·simp only [cond_false]
    split
    ·exact h.go 2 (by decide) (by decide)
    ·exact ⟨h.c, cnt_i _, h.i, h.l, h.m0, h.m3, h.f0, h.f9⟩
   ·exact h.go 0 (by decide) (by decide)
  ·exact h.fail 1 (by decide)
 split
 ·cases s.gap
  ·simp only [cond_false]
   unfold finW
   cases s.bad
   ·simp only [cond_false]
    split
    ·exact h.fail 2 (by decide)
    cases (s.pair && s.lit)
    ·exact ⟨h.c, h.g, h.i, cnt_i _, h.m0, h.m3, h.f0, h.f9⟩
    ·simp only [cond_true]
     split
     ·exact h.fail 8 (by decide)
     ·exact ⟨h.c, h.g, cnt_i _, cnt_i _, h.m0, h.m3, h.f0, h.f9⟩
   ·exact h.fail 4 (by decide)
  ·exact h.fail 1 (by decide)
 ·exact h.go 3 (by decide) (by decide)
abbrev cPlan (c : Cra) : Tup 6 := c.2.2.2.1
abbrev cDrif (c : Cra) : Dri := c.2.2.2.2.2.2.1
abbrev cGues (c : Cra) : Tup 43 := c.2.2.2.2.2.2.2.1
abbrev cAcks (c : Cra) : Tup 3 := c.2.2.2.2.2.2.2.2
structure AkI (a : Tup 3) : Prop where
 a0 : 0 ≤ a.1
 a1 : a.1 ≤ 255
 e0 : 0 ≤ a.2.1
 e1 : a.2.1 ≤ 255
 r0 : 0 ≤ a.2.2.1
 r1 : a.2.2.1 ≤ 65535
theorem rej_in {n : Int} (h0 : 0 ≤ n) (h1 : n ≤ 65535) : 0 ≤ rejW n ∧ rejW n ≤ 65535 := by
 unfold rejW
 split
 ·exact ⟨by decide, by decide⟩
 ·rw [IntKind.wrap_i64]
  constructor <;> omega
theorem ord_in (k : Int) (s : ByteArray) : 0 ≤ (ordR k s).1.1 ∧ (ordR k s).1.1 ≤ 255 ∧ 0 ≤ (ordR k s).2 ∧ (ordR k s).2 ≤ 255 := by
 have hb : (0 : Int) ≤ (bt s 0 : Nat) ∧ ((bt s 0 : Nat) : Int) ≤ 255 := by
  have := bt_lt s 0
  omega
 unfold ordR
 split
 ·exact ⟨by decide, by decide, by decide, by decide⟩
 split
 ·exact ⟨hb.1, hb.2, by dsimp only; decide, by dsimp only; decide⟩
 split
 ·exact ⟨hb.1, hb.2, by dsimp only; decide, by dsimp only; decide⟩
 split
 ·exact ⟨hb.1, hb.2, by dsimp only; decide, by dsimp only; decide⟩
 split
 ·exact ⟨hb.1, hb.2, by dsimp only; decide, by dsimp only; decide⟩
 split
 ·exact ⟨hb.1, hb.2, by dsimp only; decide, by dsimp only; decide⟩
 ·exact ⟨hb.1, hb.2, by dsimp only; decide, by dsimp only; decide⟩
def clrP (p : Tup 6) : Tup 6 := (p.1, p.2.1, p.2.2.1, p.2.2.2.1, p.2.2.2.2.1, 0, ())
structure Mid (c0 : Cra) (l : ByteArray) (c : Cra) : Prop where
 on : c.1 = c0.1
 tick : c.2.1 = c0.2.1
 left : c.2.2.1 = l
 plan : cPlan c = cPlan c0 ∨ cPlan c = clrP (cPlan c0)
 dri : cDrif c = cDrif c0
 gue : cGues c = cGues c0
 ak : AkI (cAcks c)
theorem Mid.rej {c0 c : Cra} {l : ByteArray} (h : Mid c0 l c) : Mid c0 l (rejC c) :=
 ⟨h.on, h.tick, h.left, h.plan, h.dri, h.gue, ⟨h.ak.a0, h.ak.a1, h.ak.e0, h.ak.e1, (rej_in h.ak.r0 h.ak.r1).1, (rej_in h.ak.r0 h.ak.r1).2⟩⟩
theorem Mid.ack {c0 c : Cra} {l : ByteArray} (h : Mid c0 l c) {q e : Int} (q0 : 0 ≤ q) (q1 : q ≤ 255) (e0 : 0 ≤ e) (e1 : e ≤ 255) : Mid c0 l (ackC c q e) :=
 ⟨h.on, h.tick, h.left, h.plan, h.dri, h.gue, ⟨q0, q1, e0, e1, h.ak.r0, h.ak.r1⟩⟩
theorem Mid.orb {c0 c : Cra} {l : ByteArray} (h : Mid c0 l c) (o : Tup 7) : Mid c0 l (orbC c o) := ⟨h.on, h.tick, h.left, h.plan, h.dri, h.gue, h.ak⟩
theorem Mid.clr {c0 c : Cra} {l : ByteArray} (h : Mid c0 l c) : Mid c0 l (clrC c) := by
 refine ⟨h.on, h.tick, h.left, .inr ?_, h.dri, h.gue, ⟨h.ak.a0, h.ak.a1, h.ak.e0, h.ak.e1, Int.le_refl 0, show (0 : Int) ≤ 65535 by decide⟩⟩
 show clrP (cPlan c) = _
 rcases h.plan with e | e <;> rw [e]
 rfl
def OrdI (x : Hea) : Prop := x.2.2.2 = 0 ∨ x.2.2.2 = 1 ∨ x.2.2.2 = 2
section
variable {F : Fs}
theorem Mid.sen {c0 c : Cra} {l : ByteArray} (h : Mid c0 l c) (x : Hea) (f : Fra) (t : Int) (ho : OrdI x) : Mid c0 l (senW F c x f t).1 ∧ OrdI (senW F c x f t).2 := by
 unfold senW
 split
 ·exact ⟨h.rej, ho⟩
 split
 ·exact ⟨h.rej, ho⟩
 split
 ·exact ⟨h, ho⟩
 split
 ·exact ⟨h, ho⟩
 split
 ·exact ⟨h, ho⟩
 ·exact ⟨h, ho⟩
theorem Mid.ord {c0 c : Cra} {l : ByteArray} (h : Mid c0 l c) (x : Hea) (f : Fra) (ho : OrdI x) : Mid c0 l (ordC c x (oreadT f)).1 ∧ OrdI (ordC c x (oreadT f)).2 := by
 obtain ⟨q0, q1, e0, e1⟩ := ord_in f.1 f.2
 have ha : Mid c0 l (ackC c (oreadT f).1.1 (oreadT f).2) := h.ack q0 q1 e0 e1
 generalize oreadT f = o at ha ⊢
 unfold ordC
 split
 ·exact ⟨ha.rej, ho⟩
 split
 ·rename_i e
  exact ⟨ha, .inr (.inl (of_decide_eq_true e))⟩
 split
 ·rename_i e
  exact ⟨ha, .inr (.inr (of_decide_eq_true e))⟩
 split
 ·exact ⟨ha.orb _, ho⟩
 split
 ·exact ⟨ha.clr, ho⟩
 ·exact ⟨ha, ho⟩
theorem Mid.hear (hF : FsIs F) {c0 : Cra} {l : ByteArray} (t : Int) (s : Cra × Hea) (f : Fra) (h : Mid c0 l s.1 ∧ OrdI s.2) : Mid c0 l (hearW F t s f).1 ∧ OrdI (hearW F t s f).2 := by
 unfold hearW
 split
 ·exact h.1.sen s.2 f t h.2
 split
 ·exact h.1.sen s.2 f t h.2
 split
 ·exact h.1.sen s.2 f t h.2
 split
 ·rw [hF.oread]
  exact h.1.ord s.2 f h.2
 ·exact ⟨h.1.rej, h.2⟩
end
theorem Mid.all {F : Fs} (hF : FsIs F) {c0 : Cra} {l : ByteArray} (t : Int) : ∀ (fs : List Fra) (s : Cra × Hea), Mid c0 l s.1 ∧ OrdI s.2 → Mid c0 l (fs.foldl (hearW F t) s).1 ∧ OrdI (fs.foldl (hearW F t) s).2
 | [], _, h => h
 | f :: fs, s, h => Mid.all hF t fs (hearW F t s f) (Mid.hear hF t s f h)
theorem take_mid {F : Fs} (hF : FsIs F) (c : Cra) (ha : AkI (cAcks c)) (t : Int) (b : ByteArray) : Mid c (restOf (c.2.2.1 ++ b).data.toList) (takeW F c t b).1 ∧ OrdI (takeW F c t b).2 := by
 unfold takeW
 refine Mid.all hF t _ _ ⟨?_, .inl rfl⟩
 have h : Mid c (restOf (c.2.2.1 ++ b).data.toList) (leftC c (restOf (c.2.2.1 ++ b).data.toList)) := ⟨rfl, rfl, rfl, .inl rfl, rfl, rfl, ha⟩
 unfold begW
 split
 ·exact h.rej
 ·exact h
end Go.Proofs.YtbophanlmkbfeaaGreatDoor
