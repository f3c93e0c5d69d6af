/-
  The walk of orbit.Kepler, for the seat Ytmjkmbhaemencaa. (Made by mkorbit.py.)
-/
import Derived.Test.YtmjkmbhaemencaaOSpec
import Derived.Test.YtmjkmbhaemencaaTSin
import Derived.Test.YtmjkmbhaemencaaMeth
import Derived.Test.YtmjkmbhaemencaaVMem
import Derived.Handy
import Derived.Deep.RegionHeld3
namespace Go.Proofs.Ytmjkmbhaemencaa
open Go.RowKit

set_option maxRecDepth 100000 in
set_option maxHeartbeats 2000000 in
theorem oKepC_any (b : Nat) (bad : Bool) (m : Int) (k : Int) (w : World) (hw : Fl b bad w) :
    Calls Try.prog 12 #[.pointer (some ⟨b, 0, none⟩), .int .i64 m, .int .i64 k] w fun e w' => e = .returned (.int .i64 ((oKepC bad m k).1)) ∧ Fl b (oKepC bad m k).2 w' ∧ Kept b w w' := by
  have hl := hw.lies
  go_enter Try.func12, Try.ntmps12
  by_cases hc1 : k < 0
  · have Hhc1 : Hid (k < 0) := hc1
    go_wp2_with fail
    refine (Fail_any b bad  _ hw).mono ?_
    rintro e w1 ⟨rfl, f1, k1⟩
    have K1 : Kept b w w1 := Kept.trans (Kept.refl b w) k1
    have z1 := K1.size
    clear k1
    go_wp2
    go_ret
    have hs : oKepC bad m k = (0, true) := by unfold oKepC; rw [if_pos (by have := Hhc1.out; omega)]
    rw [hs]
    exact ⟨rfl, f1, K1⟩
  · have Hhc1 : Hid (¬ k < 0) := hc1
    by_cases hc2 : k > 109951162777
    · have Hhc2 : Hid (k > 109951162777) := hc2
      go_wp2_with fail
      refine (Fail_any b bad  _ hw).mono ?_
      rintro e w1 ⟨rfl, f1, k1⟩
      have K1 : Kept b w w1 := Kept.trans (Kept.refl b w) k1
      have z1 := K1.size
      clear k1
      go_wp2
      go_ret
      have hs : oKepC bad m k = (0, true) := by unfold oKepC; rw [if_neg (by have := Hhc1.out; omega)]; rw [if_pos (by have := Hhc2.out; omega)]
      rw [hs]
      exact ⟨rfl, f1, K1⟩
    · have Hhc2 : Hid (¬ k > 109951162777) := hc2
      go_wp2_with fail
      refine wp_loop_rounds 7 ?_
      rw [rounds_succ]
      go_wp2_with fail
      refine (Sin_any b bad m _ hw).mono ?_
      rintro e w1 ⟨rfl, f1, k1⟩
      generalize e1 : sinA bad m = r1 at f1 ⊢
      have E1 : Hid _ := e1
      clear e1
      have K1 : Kept b w w1 := Kept.trans (Kept.refl b w) k1
      have z1 := K1.size
      clear k1
      go_wp2_with fail
      refine (Mul_any b r1.2 k r1.1 _ f1).mono ?_
      rintro e w2 ⟨rfl, f2, k2⟩
      generalize e2 : mulS r1.2 k r1.1 = r2 at f2 ⊢
      have E2 : Hid _ := e2
      clear e2
      have K2 : Kept b w w2 := Kept.trans K1 k2
      have z2 := K2.size
      clear K1 f1 k2
      go_wp2_with fail
      refine (Sub_any b r2.2 m r2.1 _ f2).mono ?_
      rintro e w3 ⟨rfl, f3, k3⟩
      generalize e3 : subS r2.2 m r2.1 = r3 at f3 ⊢
      have E3 : Hid _ := e3
      clear e3
      have K3 : Kept b w w3 := Kept.trans K2 k3
      have z3 := K3.size
      clear K2 f2 k3
      go_wp2_with fail
      refine (Sub_any b r3.2 r3.1 m _ f3).mono ?_
      rintro e w4 ⟨rfl, f4, k4⟩
      generalize e4 : subS r3.2 r3.1 m = r4 at f4 ⊢
      have E4 : Hid _ := e4
      clear e4
      have K4 : Kept b w w4 := Kept.trans K3 k4
      have z4 := K4.size
      clear K3 f3 k4
      go_wp2_with fail
      refine (Cos_any b r4.2 m _ f4).mono ?_
      rintro e w5 ⟨rfl, f5, k5⟩
      generalize e5 : cosA r4.2 m = r5 at f5 ⊢
      have E5 : Hid _ := e5
      clear e5
      have K5 : Kept b w w5 := Kept.trans K4 k5
      have z5 := K5.size
      clear K4 f4 k5
      go_wp2_with fail
      refine (Mul_any b r5.2 k r5.1 _ f5).mono ?_
      rintro e w6 ⟨rfl, f6, k6⟩
      generalize e6 : mulS r5.2 k r5.1 = r6 at f6 ⊢
      have E6 : Hid _ := e6
      clear e6
      have K6 : Kept b w w6 := Kept.trans K5 k6
      have z6 := K6.size
      clear K5 f5 k6
      go_wp2_with fail
      refine (Sub_any b r6.2 1099511627776 r6.1 _ f6).mono ?_
      rintro e w7 ⟨rfl, f7, k7⟩
      generalize e7 : subS r6.2 1099511627776 r6.1 = r7 at f7 ⊢
      have E7 : Hid _ := e7
      clear e7
      have K7 : Kept b w w7 := Kept.trans K6 k7
      have z7 := K7.size
      clear K6 f6 k7
      go_wp2_with fail
      refine (Div_any b r7.2 r4.1 r7.1 _ f7).mono ?_
      rintro e w8 ⟨rfl, f8, k8⟩
      generalize e8 : divS r7.2 r4.1 r7.1 = r8 at f8 ⊢
      have E8 : Hid _ := e8
      clear e8
      have K8 : Kept b w w8 := Kept.trans K7 k8
      have z8 := K8.size
      clear K7 f7 k8
      go_wp2_with fail
      refine (Sub_any b r8.2 m r8.1 _ f8).mono ?_
      rintro e w9 ⟨rfl, f9, k9⟩
      generalize e9 : subS r8.2 m r8.1 = r9 at f9 ⊢
      have E9 : Hid _ := e9
      clear e9
      have K9 : Kept b w w9 := Kept.trans K8 k9
      have z9 := K9.size
      clear K8 f8 k9
      have P9 : Hid (kStep bad m k m = r9) := by show _ = _; unfold kStep; simp only [E1.out, E2.out, E3.out, E4.out, E5.out, E6.out, E7.out, E8.out, E9.out]
      clear E1 E2 E3 E4 E5 E6 E7 E8 E9
      go_wp2_with fail
      rw [rounds_succ]
      go_wp2_with fail
      refine (Sin_any b r9.2 r9.1 _ f9).mono ?_
      rintro e w10 ⟨rfl, f10, k10⟩
      generalize e10 : sinA r9.2 r9.1 = r10 at f10 ⊢
      have E10 : Hid _ := e10
      clear e10
      have K10 : Kept b w w10 := Kept.trans K9 k10
      have z10 := K10.size
      clear K9 f9 k10
      go_wp2_with fail
      refine (Mul_any b r10.2 k r10.1 _ f10).mono ?_
      rintro e w11 ⟨rfl, f11, k11⟩
      generalize e11 : mulS r10.2 k r10.1 = r11 at f11 ⊢
      have E11 : Hid _ := e11
      clear e11
      have K11 : Kept b w w11 := Kept.trans K10 k11
      have z11 := K11.size
      clear K10 f10 k11
      go_wp2_with fail
      refine (Sub_any b r11.2 r9.1 r11.1 _ f11).mono ?_
      rintro e w12 ⟨rfl, f12, k12⟩
      generalize e12 : subS r11.2 r9.1 r11.1 = r12 at f12 ⊢
      have E12 : Hid _ := e12
      clear e12
      have K12 : Kept b w w12 := Kept.trans K11 k12
      have z12 := K12.size
      clear K11 f11 k12
      go_wp2_with fail
      refine (Sub_any b r12.2 r12.1 m _ f12).mono ?_
      rintro e w13 ⟨rfl, f13, k13⟩
      generalize e13 : subS r12.2 r12.1 m = r13 at f13 ⊢
      have E13 : Hid _ := e13
      clear e13
      have K13 : Kept b w w13 := Kept.trans K12 k13
      have z13 := K13.size
      clear K12 f12 k13
      go_wp2_with fail
      refine (Cos_any b r13.2 r9.1 _ f13).mono ?_
      rintro e w14 ⟨rfl, f14, k14⟩
      generalize e14 : cosA r13.2 r9.1 = r14 at f14 ⊢
      have E14 : Hid _ := e14
      clear e14
      have K14 : Kept b w w14 := Kept.trans K13 k14
      have z14 := K14.size
      clear K13 f13 k14
      go_wp2_with fail
      refine (Mul_any b r14.2 k r14.1 _ f14).mono ?_
      rintro e w15 ⟨rfl, f15, k15⟩
      generalize e15 : mulS r14.2 k r14.1 = r15 at f15 ⊢
      have E15 : Hid _ := e15
      clear e15
      have K15 : Kept b w w15 := Kept.trans K14 k15
      have z15 := K15.size
      clear K14 f14 k15
      go_wp2_with fail
      refine (Sub_any b r15.2 1099511627776 r15.1 _ f15).mono ?_
      rintro e w16 ⟨rfl, f16, k16⟩
      generalize e16 : subS r15.2 1099511627776 r15.1 = r16 at f16 ⊢
      have E16 : Hid _ := e16
      clear e16
      have K16 : Kept b w w16 := Kept.trans K15 k16
      have z16 := K16.size
      clear K15 f15 k16
      go_wp2_with fail
      refine (Div_any b r16.2 r13.1 r16.1 _ f16).mono ?_
      rintro e w17 ⟨rfl, f17, k17⟩
      generalize e17 : divS r16.2 r13.1 r16.1 = r17 at f17 ⊢
      have E17 : Hid _ := e17
      clear e17
      have K17 : Kept b w w17 := Kept.trans K16 k17
      have z17 := K17.size
      clear K16 f16 k17
      go_wp2_with fail
      refine (Sub_any b r17.2 r9.1 r17.1 _ f17).mono ?_
      rintro e w18 ⟨rfl, f18, k18⟩
      generalize e18 : subS r17.2 r9.1 r17.1 = r18 at f18 ⊢
      have E18 : Hid _ := e18
      clear e18
      have K18 : Kept b w w18 := Kept.trans K17 k18
      have z18 := K18.size
      clear K17 f17 k18
      have P18 : Hid (kStep r9.2 m k r9.1 = r18) := by show _ = _; unfold kStep; simp only [E10.out, E11.out, E12.out, E13.out, E14.out, E15.out, E16.out, E17.out, E18.out]
      clear E10 E11 E12 E13 E14 E15 E16 E17 E18
      go_wp2_with fail
      rw [rounds_succ]
      go_wp2_with fail
      refine (Sin_any b r18.2 r18.1 _ f18).mono ?_
      rintro e w19 ⟨rfl, f19, k19⟩
      generalize e19 : sinA r18.2 r18.1 = r19 at f19 ⊢
      have E19 : Hid _ := e19
      clear e19
      have K19 : Kept b w w19 := Kept.trans K18 k19
      have z19 := K19.size
      clear K18 f18 k19
      go_wp2_with fail
      refine (Mul_any b r19.2 k r19.1 _ f19).mono ?_
      rintro e w20 ⟨rfl, f20, k20⟩
      generalize e20 : mulS r19.2 k r19.1 = r20 at f20 ⊢
      have E20 : Hid _ := e20
      clear e20
      have K20 : Kept b w w20 := Kept.trans K19 k20
      have z20 := K20.size
      clear K19 f19 k20
      go_wp2_with fail
      refine (Sub_any b r20.2 r18.1 r20.1 _ f20).mono ?_
      rintro e w21 ⟨rfl, f21, k21⟩
      generalize e21 : subS r20.2 r18.1 r20.1 = r21 at f21 ⊢
      have E21 : Hid _ := e21
      clear e21
      have K21 : Kept b w w21 := Kept.trans K20 k21
      have z21 := K21.size
      clear K20 f20 k21
      go_wp2_with fail
      refine (Sub_any b r21.2 r21.1 m _ f21).mono ?_
      rintro e w22 ⟨rfl, f22, k22⟩
      generalize e22 : subS r21.2 r21.1 m = r22 at f22 ⊢
      have E22 : Hid _ := e22
      clear e22
      have K22 : Kept b w w22 := Kept.trans K21 k22
      have z22 := K22.size
      clear K21 f21 k22
      go_wp2_with fail
      refine (Cos_any b r22.2 r18.1 _ f22).mono ?_
      rintro e w23 ⟨rfl, f23, k23⟩
      generalize e23 : cosA r22.2 r18.1 = r23 at f23 ⊢
      have E23 : Hid _ := e23
      clear e23
      have K23 : Kept b w w23 := Kept.trans K22 k23
      have z23 := K23.size
      clear K22 f22 k23
      go_wp2_with fail
      refine (Mul_any b r23.2 k r23.1 _ f23).mono ?_
      rintro e w24 ⟨rfl, f24, k24⟩
      generalize e24 : mulS r23.2 k r23.1 = r24 at f24 ⊢
      have E24 : Hid _ := e24
      clear e24
      have K24 : Kept b w w24 := Kept.trans K23 k24
      have z24 := K24.size
      clear K23 f23 k24
      go_wp2_with fail
      refine (Sub_any b r24.2 1099511627776 r24.1 _ f24).mono ?_
      rintro e w25 ⟨rfl, f25, k25⟩
      generalize e25 : subS r24.2 1099511627776 r24.1 = r25 at f25 ⊢
      have E25 : Hid _ := e25
      clear e25
      have K25 : Kept b w w25 := Kept.trans K24 k25
      have z25 := K25.size
      clear K24 f24 k25
      go_wp2_with fail
      refine (Div_any b r25.2 r22.1 r25.1 _ f25).mono ?_
      rintro e w26 ⟨rfl, f26, k26⟩
      generalize e26 : divS r25.2 r22.1 r25.1 = r26 at f26 ⊢
      have E26 : Hid _ := e26
      clear e26
      have K26 : Kept b w w26 := Kept.trans K25 k26
      have z26 := K26.size
      clear K25 f25 k26
      go_wp2_with fail
      refine (Sub_any b r26.2 r18.1 r26.1 _ f26).mono ?_
      rintro e w27 ⟨rfl, f27, k27⟩
      generalize e27 : subS r26.2 r18.1 r26.1 = r27 at f27 ⊢
      have E27 : Hid _ := e27
      clear e27
      have K27 : Kept b w w27 := Kept.trans K26 k27
      have z27 := K27.size
      clear K26 f26 k27
      have P27 : Hid (kStep r18.2 m k r18.1 = r27) := by show _ = _; unfold kStep; simp only [E19.out, E20.out, E21.out, E22.out, E23.out, E24.out, E25.out, E26.out, E27.out]
      clear E19 E20 E21 E22 E23 E24 E25 E26 E27
      go_wp2_with fail
      rw [rounds_succ]
      go_wp2_with fail
      refine (Sin_any b r27.2 r27.1 _ f27).mono ?_
      rintro e w28 ⟨rfl, f28, k28⟩
      generalize e28 : sinA r27.2 r27.1 = r28 at f28 ⊢
      have E28 : Hid _ := e28
      clear e28
      have K28 : Kept b w w28 := Kept.trans K27 k28
      have z28 := K28.size
      clear K27 f27 k28
      go_wp2_with fail
      refine (Mul_any b r28.2 k r28.1 _ f28).mono ?_
      rintro e w29 ⟨rfl, f29, k29⟩
      generalize e29 : mulS r28.2 k r28.1 = r29 at f29 ⊢
      have E29 : Hid _ := e29
      clear e29
      have K29 : Kept b w w29 := Kept.trans K28 k29
      have z29 := K29.size
      clear K28 f28 k29
      go_wp2_with fail
      refine (Sub_any b r29.2 r27.1 r29.1 _ f29).mono ?_
      rintro e w30 ⟨rfl, f30, k30⟩
      generalize e30 : subS r29.2 r27.1 r29.1 = r30 at f30 ⊢
      have E30 : Hid _ := e30
      clear e30
      have K30 : Kept b w w30 := Kept.trans K29 k30
      have z30 := K30.size
      clear K29 f29 k30
      go_wp2_with fail
      refine (Sub_any b r30.2 r30.1 m _ f30).mono ?_
      rintro e w31 ⟨rfl, f31, k31⟩
      generalize e31 : subS r30.2 r30.1 m = r31 at f31 ⊢
      have E31 : Hid _ := e31
      clear e31
      have K31 : Kept b w w31 := Kept.trans K30 k31
      have z31 := K31.size
      clear K30 f30 k31
      go_wp2_with fail
      refine (Cos_any b r31.2 r27.1 _ f31).mono ?_
      rintro e w32 ⟨rfl, f32, k32⟩
      generalize e32 : cosA r31.2 r27.1 = r32 at f32 ⊢
      have E32 : Hid _ := e32
      clear e32
      have K32 : Kept b w w32 := Kept.trans K31 k32
      have z32 := K32.size
      clear K31 f31 k32
      go_wp2_with fail
      refine (Mul_any b r32.2 k r32.1 _ f32).mono ?_
      rintro e w33 ⟨rfl, f33, k33⟩
      generalize e33 : mulS r32.2 k r32.1 = r33 at f33 ⊢
      have E33 : Hid _ := e33
      clear e33
      have K33 : Kept b w w33 := Kept.trans K32 k33
      have z33 := K33.size
      clear K32 f32 k33
      go_wp2_with fail
      refine (Sub_any b r33.2 1099511627776 r33.1 _ f33).mono ?_
      rintro e w34 ⟨rfl, f34, k34⟩
      generalize e34 : subS r33.2 1099511627776 r33.1 = r34 at f34 ⊢
      have E34 : Hid _ := e34
      clear e34
      have K34 : Kept b w w34 := Kept.trans K33 k34
      have z34 := K34.size
      clear K33 f33 k34
      go_wp2_with fail
      refine (Div_any b r34.2 r31.1 r34.1 _ f34).mono ?_
      rintro e w35 ⟨rfl, f35, k35⟩
      generalize e35 : divS r34.2 r31.1 r34.1 = r35 at f35 ⊢
      have E35 : Hid _ := e35
      clear e35
      have K35 : Kept b w w35 := Kept.trans K34 k35
      have z35 := K35.size
      clear K34 f34 k35
      go_wp2_with fail
      refine (Sub_any b r35.2 r27.1 r35.1 _ f35).mono ?_
      rintro e w36 ⟨rfl, f36, k36⟩
      generalize e36 : subS r35.2 r27.1 r35.1 = r36 at f36 ⊢
      have E36 : Hid _ := e36
      clear e36
      have K36 : Kept b w w36 := Kept.trans K35 k36
      have z36 := K36.size
      clear K35 f35 k36
      have P36 : Hid (kStep r27.2 m k r27.1 = r36) := by show _ = _; unfold kStep; simp only [E28.out, E29.out, E30.out, E31.out, E32.out, E33.out, E34.out, E35.out, E36.out]
      clear E28 E29 E30 E31 E32 E33 E34 E35 E36
      go_wp2_with fail
      rw [rounds_succ]
      go_wp2_with fail
      refine (Sin_any b r36.2 r36.1 _ f36).mono ?_
      rintro e w37 ⟨rfl, f37, k37⟩
      generalize e37 : sinA r36.2 r36.1 = r37 at f37 ⊢
      have E37 : Hid _ := e37
      clear e37
      have K37 : Kept b w w37 := Kept.trans K36 k37
      have z37 := K37.size
      clear K36 f36 k37
      go_wp2_with fail
      refine (Mul_any b r37.2 k r37.1 _ f37).mono ?_
      rintro e w38 ⟨rfl, f38, k38⟩
      generalize e38 : mulS r37.2 k r37.1 = r38 at f38 ⊢
      have E38 : Hid _ := e38
      clear e38
      have K38 : Kept b w w38 := Kept.trans K37 k38
      have z38 := K38.size
      clear K37 f37 k38
      go_wp2_with fail
      refine (Sub_any b r38.2 r36.1 r38.1 _ f38).mono ?_
      rintro e w39 ⟨rfl, f39, k39⟩
      generalize e39 : subS r38.2 r36.1 r38.1 = r39 at f39 ⊢
      have E39 : Hid _ := e39
      clear e39
      have K39 : Kept b w w39 := Kept.trans K38 k39
      have z39 := K39.size
      clear K38 f38 k39
      go_wp2_with fail
      refine (Sub_any b r39.2 r39.1 m _ f39).mono ?_
      rintro e w40 ⟨rfl, f40, k40⟩
      generalize e40 : subS r39.2 r39.1 m = r40 at f40 ⊢
      have E40 : Hid _ := e40
      clear e40
      have K40 : Kept b w w40 := Kept.trans K39 k40
      have z40 := K40.size
      clear K39 f39 k40
      go_wp2_with fail
      refine (Cos_any b r40.2 r36.1 _ f40).mono ?_
      rintro e w41 ⟨rfl, f41, k41⟩
      generalize e41 : cosA r40.2 r36.1 = r41 at f41 ⊢
      have E41 : Hid _ := e41
      clear e41
      have K41 : Kept b w w41 := Kept.trans K40 k41
      have z41 := K41.size
      clear K40 f40 k41
      go_wp2_with fail
      refine (Mul_any b r41.2 k r41.1 _ f41).mono ?_
      rintro e w42 ⟨rfl, f42, k42⟩
      generalize e42 : mulS r41.2 k r41.1 = r42 at f42 ⊢
      have E42 : Hid _ := e42
      clear e42
      have K42 : Kept b w w42 := Kept.trans K41 k42
      have z42 := K42.size
      clear K41 f41 k42
      go_wp2_with fail
      refine (Sub_any b r42.2 1099511627776 r42.1 _ f42).mono ?_
      rintro e w43 ⟨rfl, f43, k43⟩
      generalize e43 : subS r42.2 1099511627776 r42.1 = r43 at f43 ⊢
      have E43 : Hid _ := e43
      clear e43
      have K43 : Kept b w w43 := Kept.trans K42 k43
      have z43 := K43.size
      clear K42 f42 k43
      go_wp2_with fail
      refine (Div_any b r43.2 r40.1 r43.1 _ f43).mono ?_
      rintro e w44 ⟨rfl, f44, k44⟩
      generalize e44 : divS r43.2 r40.1 r43.1 = r44 at f44 ⊢
      have E44 : Hid _ := e44
      clear e44
      have K44 : Kept b w w44 := Kept.trans K43 k44
      have z44 := K44.size
      clear K43 f43 k44
      go_wp2_with fail
      refine (Sub_any b r44.2 r36.1 r44.1 _ f44).mono ?_
      rintro e w45 ⟨rfl, f45, k45⟩
      generalize e45 : subS r44.2 r36.1 r44.1 = r45 at f45 ⊢
      have E45 : Hid _ := e45
      clear e45
      have K45 : Kept b w w45 := Kept.trans K44 k45
      have z45 := K45.size
      clear K44 f44 k45
      have P45 : Hid (kStep r36.2 m k r36.1 = r45) := by show _ = _; unfold kStep; simp only [E37.out, E38.out, E39.out, E40.out, E41.out, E42.out, E43.out, E44.out, E45.out]
      clear E37 E38 E39 E40 E41 E42 E43 E44 E45
      go_wp2_with fail
      rw [rounds_succ]
      go_wp2_with fail
      refine (Sin_any b r45.2 r45.1 _ f45).mono ?_
      rintro e w46 ⟨rfl, f46, k46⟩
      generalize e46 : sinA r45.2 r45.1 = r46 at f46 ⊢
      have E46 : Hid _ := e46
      clear e46
      have K46 : Kept b w w46 := Kept.trans K45 k46
      have z46 := K46.size
      clear K45 f45 k46
      go_wp2_with fail
      refine (Mul_any b r46.2 k r46.1 _ f46).mono ?_
      rintro e w47 ⟨rfl, f47, k47⟩
      generalize e47 : mulS r46.2 k r46.1 = r47 at f47 ⊢
      have E47 : Hid _ := e47
      clear e47
      have K47 : Kept b w w47 := Kept.trans K46 k47
      have z47 := K47.size
      clear K46 f46 k47
      go_wp2_with fail
      refine (Sub_any b r47.2 r45.1 r47.1 _ f47).mono ?_
      rintro e w48 ⟨rfl, f48, k48⟩
      generalize e48 : subS r47.2 r45.1 r47.1 = r48 at f48 ⊢
      have E48 : Hid _ := e48
      clear e48
      have K48 : Kept b w w48 := Kept.trans K47 k48
      have z48 := K48.size
      clear K47 f47 k48
      go_wp2_with fail
      refine (Sub_any b r48.2 r48.1 m _ f48).mono ?_
      rintro e w49 ⟨rfl, f49, k49⟩
      generalize e49 : subS r48.2 r48.1 m = r49 at f49 ⊢
      have E49 : Hid _ := e49
      clear e49
      have K49 : Kept b w w49 := Kept.trans K48 k49
      have z49 := K49.size
      clear K48 f48 k49
      go_wp2_with fail
      refine (Cos_any b r49.2 r45.1 _ f49).mono ?_
      rintro e w50 ⟨rfl, f50, k50⟩
      generalize e50 : cosA r49.2 r45.1 = r50 at f50 ⊢
      have E50 : Hid _ := e50
      clear e50
      have K50 : Kept b w w50 := Kept.trans K49 k50
      have z50 := K50.size
      clear K49 f49 k50
      go_wp2_with fail
      refine (Mul_any b r50.2 k r50.1 _ f50).mono ?_
      rintro e w51 ⟨rfl, f51, k51⟩
      generalize e51 : mulS r50.2 k r50.1 = r51 at f51 ⊢
      have E51 : Hid _ := e51
      clear e51
      have K51 : Kept b w w51 := Kept.trans K50 k51
      have z51 := K51.size
      clear K50 f50 k51
      go_wp2_with fail
      refine (Sub_any b r51.2 1099511627776 r51.1 _ f51).mono ?_
      rintro e w52 ⟨rfl, f52, k52⟩
      generalize e52 : subS r51.2 1099511627776 r51.1 = r52 at f52 ⊢
      have E52 : Hid _ := e52
      clear e52
      have K52 : Kept b w w52 := Kept.trans K51 k52
      have z52 := K52.size
      clear K51 f51 k52
      go_wp2_with fail
      refine (Div_any b r52.2 r49.1 r52.1 _ f52).mono ?_
      rintro e w53 ⟨rfl, f53, k53⟩
      generalize e53 : divS r52.2 r49.1 r52.1 = r53 at f53 ⊢
      have E53 : Hid _ := e53
      clear e53
      have K53 : Kept b w w53 := Kept.trans K52 k53
      have z53 := K53.size
      clear K52 f52 k53
      go_wp2_with fail
      refine (Sub_any b r53.2 r45.1 r53.1 _ f53).mono ?_
      rintro e w54 ⟨rfl, f54, k54⟩
      generalize e54 : subS r53.2 r45.1 r53.1 = r54 at f54 ⊢
      have E54 : Hid _ := e54
      clear e54
      have K54 : Kept b w w54 := Kept.trans K53 k54
      have z54 := K54.size
      clear K53 f53 k54
      have P54 : Hid (kStep r45.2 m k r45.1 = r54) := by show _ = _; unfold kStep; simp only [E46.out, E47.out, E48.out, E49.out, E50.out, E51.out, E52.out, E53.out, E54.out]
      clear E46 E47 E48 E49 E50 E51 E52 E53 E54
      go_wp2_with fail
      rw [rounds_succ]
      go_wp2
      go_ret
      have hs : oKepC bad m k = (r54.1, r54.2) := by unfold oKepC; simp only [P9.out, P18.out, P27.out, P36.out, P45.out, P54.out]; rw [if_neg (by have := Hhc1.out; omega)]; rw [if_neg (by have := Hhc2.out; omega)]
      rw [hs]
      exact ⟨rfl, f54, K54⟩
end Go.Proofs.Ytmjkmbhaemencaa
