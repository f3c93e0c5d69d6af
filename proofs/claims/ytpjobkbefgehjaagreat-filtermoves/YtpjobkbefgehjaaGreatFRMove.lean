/-
  Walks of package alidaderef14, for the seat YtpjobkbefgehjaaGreat. (Made by mkref14.py.)
-/
import Derived.Test.YtpjobkbefgehjaaGreatJC
import Derived.Test.YtpjobkbefgehjaaGreatJV
import Derived.Test.YtpjobkbefgehjaaGreatJW
import Derived.Test.YtpjobkbefgehjaaGreatJX
import Derived.Deep.Cut
import Derived.Handy
import Derived.Deep.RegionHeld3
namespace Go.Proofs.YtpjobkbefgehjaaGreat
open Go.RowKit

def fMoveS (bad : Bool) (g : Nat → Int) (v : V3) (ms : Int) : (Nat → Int) × Bool := fMoveinS (bad || (decide (ms < 10) || decide (10000 < ms))) g v ms
theorem fMoveS_in {bad : Bool} {g : Nat → Int} {v : V3} {ms : Int} (h1 : 10 ≤ ms) (h2 : ms ≤ 10000) : fMoveS bad g v ms = fMoveinS bad g v ms := by
 unfold fMoveS
 rw [decide_eq_false (by omega), decide_eq_false (by omega), Bool.or_false, Bool.or_false]
theorem fMoveS_lo {bad : Bool} {g : Nat → Int} {v : V3} {ms : Int} (h1 : ms < 10) : fMoveS bad g v ms = fMoveinS true g v ms := by
 unfold fMoveS
 rw [decide_eq_true h1, Bool.true_or, Bool.or_true]
theorem fMoveS_hi {bad : Bool} {g : Nat → Int} {v : V3} {ms : Int} (h1 : 10000 < ms) : fMoveS bad g v ms = fMoveinS true g v ms := by
 unfold fMoveS
 rw [decide_eq_true h1, Bool.or_true, Bool.or_true]
theorem cut_lo {ms : Int} {x : Bool} (hx : Hid ((decide (ms < 10) || decide (10000 < ms)) = x)) (h : ms < 10) : Value.bool true = .bool x := by
 rw [← hx.out, decide_eq_true h]; rfl
theorem cut_hi {ms : Int} {x : Bool} (hx : Hid ((decide (ms < 10) || decide (10000 < ms)) = x)) (h : 10000 < ms) : Value.bool true = .bool x := by
 rw [← hx.out, decide_eq_true h, Bool.or_true]
theorem cut_in {ms : Int} {x : Bool} (hx : Hid ((decide (ms < 10) || decide (10000 < ms)) = x)) (h1 : ¬ ms < 10) (h2 : ¬ 10000 < ms) : Value.bool false = .bool x := by
 rw [← hx.out, decide_eq_false h1, decide_eq_false h2]; rfl
set_option maxRecDepth 100000 in
set_option maxHeartbeats 20000000 in
theorem fMove_any (b : Nat) (bad : Bool) (g : Nat → Int) (v : V3) (ms : Int) (w : World) (hw : Fl b bad w) :
  Calls Tryz.prog 7 #[.pointer (some ⟨b, 0, none⟩), .agg (row 43 g).toArray, .agg #[.int .i64 v.1, .int .i64 v.2.1, .int .i64 v.2.2], .int .i64 ms] w fun e w' => e = .returned (.agg (row 43 ((fMoveS bad g v ms).1)).toArray) ∧ Fl b (fMoveS bad g v ms).2 w' ∧ Kept b w w' := by
 obtain ⟨x, hx⟩ : ∃ x, Hid ((decide (ms < 10) || decide (10000 < ms)) = x) := ⟨_, rfl⟩
 obtain ⟨bd, hbd⟩ : ∃ y, Hid ((bad || x) = y) := ⟨_, rfl⟩
 rw [show fMoveS bad g v ms = fMoveinS bd g v ms by unfold fMoveS; rw [hx.out, hbd.out]]
 have hl := hw.lies
 go_enter Tryz.func7, Tryz.ntmps7
 have y1_BF := hw.lies
 have y2_BF : b < w.heap.size + 1 := (Nat.lt_succ_of_lt hw.lies)
 have y2_B0 : w.heap.size < w.heap.size + 1 := (Nat.lt_succ_self _)
 have y3_BF : b < w.heap.size + 1 + 1 := (Nat.lt_succ_of_lt (Nat.lt_succ_of_lt hw.lies))
 have y3_B0 : w.heap.size < w.heap.size + 1 + 1 := (Nat.lt_succ_of_lt (Nat.lt_succ_self _))
 have y3_B1 : w.heap.size + 1 < w.heap.size + 1 + 1 := (Nat.lt_succ_self _)
 go_upto_region 1 with fail
 go_cut [29] from 24 (fun s29 wc => s29 = .bool x ∧ Fl b bad wc ∧ Kept b w wc ∧ Arr w.heap.size (row 43 g) wc ∧ Arr (w.heap.size + 1) [.int .i64 v.1, .int .i64 v.2.1, .int .i64 v.2.2] wc ∧ Arr (w.heap.size + 1 + 1) (row 43 (fun _ => 0)) wc)
 case first => (by_cases h1 : ms < 10 <;> by_cases h2 : 10000 < ms <;> (go_wp2; go_meet; case rel => exact ⟨by first | exact cut_lo hx (by omega) | exact cut_hi hx (by omega) | exact cut_in hx (by omega) (by omega), ((hw.alloc _).alloc _).alloc _, (((Kept.refl b w).al _).al _).al _, ((Arr_at _ _ (row 43 g) _ (by simp)).alloc _).alloc _, (Arr_at _ _ [.int .i64 v.1, .int .i64 v.2.1, .int .i64 v.2.2] _ (by simp)).alloc _, Arr_at _ _ (row 43 (fun _ => 0)) _ (by simp)⟩))
 obtain ⟨e29, f0, k0, a0, a1, a2⟩ := hcut
 subst e29
 go_upto_if 29 with fail
 go_cut [] from 24 (fun wc => Fl b bd wc ∧ Kept b w wc ∧ Arr w.heap.size (row 43 g) wc ∧ Arr (w.heap.size + 1) [.int .i64 v.1, .int .i64 v.2.1, .int .i64 v.2.2] wc ∧ Arr (w.heap.size + 1 + 1) (row 43 (fun _ => 0)) wc)
 case first =>
  cases x
  ·go_wp2
   go_meet
   case rel => exact ⟨by have e := hbd.out; rw [Bool.or_false] at e; rw [← e]; exact f0, k0, a0, a1, a2⟩
  ·go_wp2_with fail
   refine (rFail_any b bad _ f0).mono ?_
   rintro e w1 ⟨rfl, f1, k1⟩
   go_wp2
   go_meet
   case rel => exact ⟨by have e := hbd.out; rw [Bool.or_true] at e; rw [← e]; exact f1, Kept.trans k0 k1, a0.kept k1 (zG hl), a1.kept k1 (zG (by omega)), a2.kept k1 (zG (by omega))⟩
 obtain ⟨BF_c, Kc, B0_c, B1_c, B2_c⟩ := hcut
 clear f0 k0 a0 a1 a2
 have zc_BF := BF_c.lies
 have zc_B0 := B0_c.lies
 have zc_B1 := B1_c.lies
 have zc_B2 := B2_c.lies
 go_wp2_with (refine row_load rfl rfl rfl B0_c (by kernel_rfl) (by rw [row_len]; kernel_rfl) ?_)
 refine (fPoints_any b bd g _ BF_c).mono ?_
 rintro e w1 ⟨rfl, f1, k1⟩
 generalize e1 : fPointsS bd g = r1 at f1 ⊢
 have E1 : Hid _ := e1
 clear e1
 try dsimp only
 have K1 : Kept b w w1 := Kept.trans Kc k1
 have B0_1 := B0_c.kept k1 (zG y1_BF)
 have B1_1 := B1_c.kept k1 (zG y2_BF)
 have B2_1 := B2_c.kept k1 (zG y3_BF)
 have z1 := B2_1.lies
 clear BF_c B0_c B1_c B2_c k1
 have y4_BF := f1.lies
 have y4_B0 := B0_1.lies
 have y4_B1 := B1_1.lies
 have y4_B2 := B2_1.lies
 go_wp2_with (refine store_stop rfl (by kernel_rfl) ?_)
 refine Stop.mk (store_row (l' := row 78 r1.1) rfl rfl rfl rfl (Arr_at _ _ (row 78 (fun _ => 0)) _ (by simp)) (by simp only [row_len]) (by rw [row_len]; kernel_rfl) (row_one _ _) ?_)
 intro w2 B3_2 o2
 have K2 : Kept b w w2 := Kept.off (K1.al _) o2 (by omega)
 have BF_2 := (f1.alloc _).off o2 (zL y4_BF)
 have B0_2 := (B0_1.alloc _).off o2 (zL y4_B0)
 have B1_2 := (B1_1.alloc _).off o2 (zL y4_B1)
 have B2_2 := (B2_1.alloc _).off o2 (zL y4_B2)
 have z2_B3 := B3_2.lies
 have z2_BF := BF_2.lies
 have z2_B0 := B0_2.lies
 have z2_B1 := B1_2.lies
 have z2_B2 := B2_2.lies
 clear K1 f1 B0_1 B1_1 B2_1 o2
 have y5_BF := BF_2.lies
 have y5_B0 := B0_2.lies
 have y5_B1 := B1_2.lies
 have y5_B2 := B2_2.lies
 have y5_B3 := B3_2.lies
 go_wp2_with (refine store_stop rfl (by kernel_rfl) ?_)
 refine Stop.mk (store_row (l' := row 52 (fun _ => 0)) rfl rfl rfl rfl (Arr_at _ _ (row 52 (fun _ => 0)) _ (by simp)) (by simp only [row_len]) (by rw [row_len]; kernel_rfl) (row_one _ _) ?_)
 intro w3 B4_3 o3
 have K3 : Kept b w w3 := Kept.off (K2.al _) o3 (by omega)
 have BF_3 := (BF_2.alloc _).off o3 (zL y5_BF)
 have B0_3 := (B0_2.alloc _).off o3 (zL y5_B0)
 have B1_3 := (B1_2.alloc _).off o3 (zL y5_B1)
 have B2_3 := (B2_2.alloc _).off o3 (zL y5_B2)
 have B3_3 := (B3_2.alloc _).off o3 (zL y5_B3)
 have z3_B4 := B4_3.lies
 have z3_BF := BF_3.lies
 have z3_B0 := B0_3.lies
 have z3_B1 := B1_3.lies
 have z3_B2 := B2_3.lies
 have z3_B3 := B3_3.lies
 clear K2 BF_2 B0_2 B1_2 B2_2 B3_2 o3
 go_wp2_with fail
 obtain ⟨J5, hJ5⟩ : ∃ J : Nat → Act → World → Prop, Hid (J = fun k a Wl5 => ∀ G_ : Prop, (∀ (s5 : (Nat → Int) × Bool) (A5 C5 D5 F5 G5 L5 M5 N5 O5 P5 Q5 : Nat → Value), Hid (fMoveinS_l5 g v ms r1 ((fun _ => 0), r1.2) k = s5) → a = { tmps := #[.pointer (some ⟨b, 0, none⟩), A5 1, A5 2, .int .i64 ms, A5 4, .pointer (some ⟨w.heap.size, 0, none⟩), .pointer (some ⟨w.heap.size + 1, 0, none⟩), A5 7, .pointer (some ⟨w.heap.size + 1 + 1, 0, none⟩), .pointer (some ⟨w1.heap.size, 0, none⟩), .pointer (some ⟨w2.heap.size, 0, none⟩), .int .i64 (k : Int), A5 12, A5 13, A5 14, A5 15, A5 16, A5 17, A5 18, A5 19, C5 0, C5 1, C5 2, C5 3, C5 4, C5 5, C5 6, C5 7, C5 8, C5 9, C5 10, C5 11, C5 12, C5 13, C5 14, C5 15, C5 16, C5 17, C5 18, C5 19, D5 0, D5 1, D5 2, D5 3, D5 4, D5 5, D5 6, D5 7, D5 8, D5 9, D5 10, D5 11, D5 12, D5 13, D5 14, D5 15, D5 16, D5 17, D5 18, D5 19, F5 0, F5 1, F5 2, F5 3, F5 4, F5 5, F5 6, F5 7, F5 8, F5 9, F5 10, F5 11, F5 12, F5 13, F5 14, F5 15, F5 16, F5 17, F5 18, F5 19, G5 0, G5 1, G5 2, G5 3, G5 4, G5 5, G5 6, G5 7, G5 8, G5 9, G5 10, G5 11, G5 12, G5 13, G5 14, G5 15, G5 16, G5 17, G5 18, G5 19, L5 0, L5 1, L5 2, L5 3, L5 4, L5 5, L5 6, L5 7, L5 8, L5 9, L5 10, L5 11, L5 12, L5 13, L5 14, L5 15, L5 16, L5 17, L5 18, L5 19, M5 0, M5 1, M5 2, M5 3, M5 4, M5 5, M5 6, M5 7, M5 8, M5 9, M5 10, M5 11, M5 12, M5 13, M5 14, M5 15, M5 16, M5 17, M5 18, M5 19, N5 0, N5 1, N5 2, N5 3, N5 4, N5 5, N5 6, N5 7, N5 8, N5 9, N5 10, N5 11, N5 12, N5 13, N5 14, N5 15, N5 16, N5 17, N5 18, N5 19, O5 0, O5 1, O5 2, O5 3, O5 4, O5 5, O5 6, O5 7, O5 8, O5 9, O5 10, O5 11, O5 12, O5 13, O5 14, O5 15, O5 16, O5 17, O5 18, O5 19, P5 0, P5 1, P5 2, P5 3, P5 4, P5 5, P5 6, P5 7, P5 8, P5 9, P5 10, P5 11, P5 12, P5 13, P5 14, P5 15, P5 16, P5 17, P5 18, P5 19, Q5 0, Q5 1, Q5 2, Q5 3, Q5 4, Q5 5], defers := [] } → Kept b w Wl5 → Fl b s5.2 Wl5 → Arr w.heap.size (row 43 g) Wl5 → Arr (w.heap.size + 1) [.int .i64 v.1, .int .i64 v.2.1, .int .i64 v.2.2] Wl5 → Arr (w.heap.size + 1 + 1) (row 43 (fun _ => 0)) Wl5 → Arr w1.heap.size (row 78 r1.1) Wl5 → Arr w2.heap.size (row 52 s5.1) Wl5 → G_) → G_) := ⟨_, rfl⟩
 refine rounds_up J5 13 ?_ ?_ ?_
 ·refine give_act (fun a_ ea_ => ?_)
  rw [hJ5.out]
  intro G_ hG_
  exact hG_ ((fun _ => 0), r1.2) (zS a_ 0) (zS a_ 20) (zS a_ 40) (zS a_ 60) (zS a_ 80) (zS a_ 100) (zS a_ 120) (zS a_ 140) (zS a_ 160) (zS a_ 180) (zS a_ 200) rfl (by subst ea_; rfl) K3 BF_3 B0_3 B1_3 B2_3 B3_3 B4_3
 ·intro k a Wl5 hk hI R hR
  rw [hJ5.out] at hI
  refine hI _ ?_
  clear hI
  intro s5 A5 C5 D5 F5 G5 L5 M5 N5 O5 P5 Q5 El5 ea Kl5 BF_l5 B0_l5 B1_l5 B2_l5 B3_l5 B4_l5
  subst ea
  have zl5_BF := BF_l5.lies
  have zl5_B0 := B0_l5.lies
  have zl5_B1 := B1_l5.lies
  have zl5_B2 := B2_l5.lies
  have zl5_B3 := B3_l5.lies
  have zl5_B4 := B4_l5.lies
  go_wp2_with fail
  refine get_cont (fun KK3 hKK3 => ?_)
  have cont3 : ∀ (W3 : World) (t3_4 t3_7 t3_24 t3_25 t3_26 t3_27 t3_28 t3_29 t3_30 t3_31 t3_32 t3_33 t3_34 t3_35 t3_36 t3_37 t3_38 t3_39 t3_40 t3_41 t3_42 t3_43 t3_44 t3_45 t3_46 t3_47 t3_48 t3_49 t3_50 t3_51 t3_52 t3_53 t3_54 t3_55 t3_56 t3_57 t3_58 t3_59 t3_60 t3_61 t3_62 t3_63 t3_64 t3_65 t3_66 t3_67 t3_68 t3_69 t3_70 t3_71 t3_72 t3_73 t3_74 t3_75 t3_76 t3_77 t3_78 t3_79 t3_80 t3_81 t3_82 t3_83 t3_84 t3_85 t3_86 t3_87 t3_88 t3_89 t3_90 t3_91 t3_92 t3_93 t3_94 t3_95 t3_96 t3_97 t3_98 t3_99 t3_100 t3_101 t3_102 t3_103 t3_104 t3_105 t3_106 t3_107 t3_108 t3_109 t3_110 t3_111 t3_112 t3_113 t3_114 t3_115 t3_116 t3_117 t3_118 t3_119 t3_120 t3_121 t3_122 t3_123 t3_124 t3_125 t3_126 t3_127 t3_128 t3_129 t3_130 t3_131 t3_132 t3_133 t3_134 t3_135 t3_136 t3_137 t3_138 t3_139 t3_140 t3_141 t3_142 t3_143 t3_144 t3_145 t3_146 t3_147 t3_148 t3_149 t3_150 t3_151 t3_152 t3_153 t3_154 t3_155 t3_156 t3_157 t3_158 t3_159 t3_160 t3_161 t3_162 t3_163 t3_164 t3_165 t3_166 t3_167 t3_168 t3_169 t3_170 t3_171 t3_172 t3_173 t3_174 t3_175 t3_176 t3_177 t3_178 t3_179 t3_180 t3_181 t3_182 t3_183 t3_184 t3_185 t3_186 t3_187 t3_188 t3_189 t3_190 t3_191 t3_192 t3_193 t3_194 t3_195 t3_196 t3_197 t3_198 t3_199 t3_200 t3_201 t3_202 t3_203 t3_204 t3_205 : Value) (x3_0 : Nat) (r4 : _) (r5 : _) (r6 : _) , Hid (vSubS s5.2 v ((g 4), (g 5), (g 6)) = r4) → Hid (flastP (fun x_ => r1.1 (k * 6 + x_)) = r5) → Hid (vSubS r4.2 r4.1 r5 = r6) → Kept b w W3 → Fl b r6.2 W3 → Arr w.heap.size (row 43 g) W3 → Arr (w.heap.size + 1) [.int .i64 v.1, .int .i64 v.2.1, .int .i64 v.2.2] W3 → Arr (w.heap.size + 1 + 1) (row 43 (fun _ => 0)) W3 → Arr w1.heap.size (row 78 r1.1) W3 → Arr w2.heap.size (row 52 s5.1) W3 → Arr x3_0 [.int .i64 r6.1.1, .int .i64 r6.1.2.1, .int .i64 r6.1.2.2] W3 → w.heap.size ≤ x3_0 → b < x3_0 → w.heap.size < x3_0 → w.heap.size + 1 < x3_0 → w.heap.size + 1 + 1 < x3_0 → w1.heap.size < x3_0 → w2.heap.size < x3_0 → KK3 { tmps := #[.pointer (some ⟨b, 0, none⟩), A5 1, A5 2, .int .i64 ms, t3_4, .pointer (some ⟨w.heap.size, 0, none⟩), .pointer (some ⟨w.heap.size + 1, 0, none⟩), t3_7, .pointer (some ⟨w.heap.size + 1 + 1, 0, none⟩), .pointer (some ⟨w1.heap.size, 0, none⟩), .pointer (some ⟨w2.heap.size, 0, none⟩), .int .i64 (k : Int), .pointer (some ⟨x3_0, 0, none⟩), A5 13, A5 14, A5 15, A5 16, A5 17, A5 18, A5 19, C5 0, C5 1, C5 2, C5 3, t3_24, t3_25, t3_26, t3_27, t3_28, t3_29, t3_30, t3_31, t3_32, t3_33, t3_34, t3_35, t3_36, t3_37, t3_38, t3_39, t3_40, t3_41, t3_42, t3_43, t3_44, t3_45, t3_46, t3_47, t3_48, t3_49, t3_50, t3_51, t3_52, t3_53, t3_54, t3_55, t3_56, t3_57, t3_58, t3_59, t3_60, t3_61, t3_62, t3_63, t3_64, t3_65, t3_66, t3_67, t3_68, t3_69, t3_70, t3_71, t3_72, t3_73, t3_74, t3_75, t3_76, t3_77, t3_78, t3_79, t3_80, t3_81, t3_82, t3_83, t3_84, t3_85, t3_86, t3_87, t3_88, t3_89, t3_90, t3_91, t3_92, t3_93, t3_94, t3_95, t3_96, t3_97, t3_98, t3_99, t3_100, t3_101, t3_102, t3_103, t3_104, t3_105, t3_106, t3_107, t3_108, t3_109, t3_110, t3_111, t3_112, t3_113, t3_114, t3_115, t3_116, t3_117, t3_118, t3_119, t3_120, t3_121, t3_122, t3_123, t3_124, t3_125, t3_126, t3_127, t3_128, t3_129, t3_130, t3_131, t3_132, t3_133, t3_134, t3_135, t3_136, t3_137, t3_138, t3_139, t3_140, t3_141, t3_142, t3_143, t3_144, t3_145, t3_146, t3_147, t3_148, t3_149, t3_150, t3_151, t3_152, t3_153, t3_154, t3_155, t3_156, t3_157, t3_158, t3_159, t3_160, t3_161, t3_162, t3_163, t3_164, t3_165, t3_166, t3_167, t3_168, t3_169, t3_170, t3_171, t3_172, t3_173, t3_174, t3_175, t3_176, t3_177, t3_178, t3_179, t3_180, t3_181, t3_182, t3_183, t3_184, t3_185, t3_186, t3_187, t3_188, t3_189, t3_190, t3_191, t3_192, t3_193, t3_194, t3_195, t3_196, t3_197, t3_198, t3_199, t3_200, t3_201, t3_202, t3_203, t3_204, t3_205], defers := [] } W3 := by
   intro W3 t3_4 t3_7 t3_24 t3_25 t3_26 t3_27 t3_28 t3_29 t3_30 t3_31 t3_32 t3_33 t3_34 t3_35 t3_36 t3_37 t3_38 t3_39 t3_40 t3_41 t3_42 t3_43 t3_44 t3_45 t3_46 t3_47 t3_48 t3_49 t3_50 t3_51 t3_52 t3_53 t3_54 t3_55 t3_56 t3_57 t3_58 t3_59 t3_60 t3_61 t3_62 t3_63 t3_64 t3_65 t3_66 t3_67 t3_68 t3_69 t3_70 t3_71 t3_72 t3_73 t3_74 t3_75 t3_76 t3_77 t3_78 t3_79 t3_80 t3_81 t3_82 t3_83 t3_84 t3_85 t3_86 t3_87 t3_88 t3_89 t3_90 t3_91 t3_92 t3_93 t3_94 t3_95 t3_96 t3_97 t3_98 t3_99 t3_100 t3_101 t3_102 t3_103 t3_104 t3_105 t3_106 t3_107 t3_108 t3_109 t3_110 t3_111 t3_112 t3_113 t3_114 t3_115 t3_116 t3_117 t3_118 t3_119 t3_120 t3_121 t3_122 t3_123 t3_124 t3_125 t3_126 t3_127 t3_128 t3_129 t3_130 t3_131 t3_132 t3_133 t3_134 t3_135 t3_136 t3_137 t3_138 t3_139 t3_140 t3_141 t3_142 t3_143 t3_144 t3_145 t3_146 t3_147 t3_148 t3_149 t3_150 t3_151 t3_152 t3_153 t3_154 t3_155 t3_156 t3_157 t3_158 t3_159 t3_160 t3_161 t3_162 t3_163 t3_164 t3_165 t3_166 t3_167 t3_168 t3_169 t3_170 t3_171 t3_172 t3_173 t3_174 t3_175 t3_176 t3_177 t3_178 t3_179 t3_180 t3_181 t3_182 t3_183 t3_184 t3_185 t3_186 t3_187 t3_188 t3_189 t3_190 t3_191 t3_192 t3_193 t3_194 t3_195 t3_196 t3_197 t3_198 t3_199 t3_200 t3_201 t3_202 t3_203 t3_204 t3_205 x3_0 r4 r5 r6 E4 E5 E6 KC3 BF_c3 B0_c3 B1_c3 B2_c3 B3_c3 B4_c3 B5_c3 s3_0 s3_1 s3_2 s3_3 s3_4 s3_5 s3_6
   have zc3_BF := BF_c3.lies
   have zc3_B0 := B0_c3.lies
   have zc3_B1 := B1_c3.lies
   have zc3_B2 := B2_c3.lies
   have zc3_B3 := B3_c3.lies
   have zc3_B4 := B4_c3.lies
   have zc3_B5 := B5_c3.lies
   rw [hKK3.out]
   dsimp only [Exit.inBlock, Exit.then]
   first | refine use_cont (by assumption) ?_ | skip
   have i6_0 : (k : Int) < 13 := by omega
   go_wp2_with fail
   clear i6_0
   refine wp_loop_rounds 4 ?_
   rw [rounds_succ]
   have c7_B5_0 : W3.cell? ⟨x3_0, 0, none⟩ = some (.int .i64 r6.1.1) := B5_c3.c 0 (zD rfl)
   go_wp2_with fail
   refine (rPart_any b r6.2 r6.1.1 ms 1000 _ BF_c3).mono ?_
   rintro e w7 ⟨rfl, f7, k7⟩
   generalize e7 : partS r6.2 r6.1.1 ms 1000 = r7 at f7 ⊢
   have E7 : Hid _ := e7
   clear e7
   try dsimp only
   have K7 : Kept b w w7 := Kept.trans KC3 k7
   have B0_7 := B0_c3.kept k7 (zG y1_BF)
   have B1_7 := B1_c3.kept k7 (zG y2_BF)
   have B2_7 := B2_c3.kept k7 (zG y3_BF)
   have B3_7 := B3_c3.kept k7 (zG y4_BF)
   have B4_7 := B4_c3.kept k7 (zG y5_BF)
   have B5_7 := B5_c3.kept k7 (zG s3_1)
   have z7 := B5_7.lies
   clear c7_B5_0 BF_c3 B0_c3 B1_c3 B2_c3 B3_c3 B4_c3 B5_c3 k7
   have c8_B5_0 : w7.cell? ⟨x3_0, 0, none⟩ = some (.int .i64 r6.1.1) := B5_7.c 0 (zD rfl)
   have g8_B5_0 := B5_7.f 0 (zD rfl)
   go_wp2_with fail
   clear c8_B5_0 g8_B5_0
   refine rounds_letter (S := fun w' => Kept b w w' ∧ Fl b r7.2 w' ∧ Arr w.heap.size (row 43 g) w' ∧ Arr (w.heap.size + 1) [.int .i64 v.1, .int .i64 v.2.1, .int .i64 v.2.2] w' ∧ Arr (w.heap.size + 1 + 1) (row 43 (fun _ => 0)) w' ∧ Arr w1.heap.size (row 78 r1.1) w' ∧ Arr w2.heap.size (row 52 s5.1) w' ∧ Arr x3_0 [.int .i64 r7.1, .int .i64 r6.1.2.1, .int .i64 r6.1.2.2] w') ⟨(K7.new _ _ s3_0 _), (f7.new x3_0 0 (zL s3_1) (.int .i64 r7.1)), (B0_7.new x3_0 0 (zL s3_2) (.int .i64 r7.1)), (B1_7.new x3_0 0 (zL s3_3) (.int .i64 r7.1)), (B2_7.new x3_0 0 (zL s3_4) (.int .i64 r7.1)), (B3_7.new x3_0 0 (zL s3_5) (.int .i64 r7.1)), (B4_7.new x3_0 0 (zL s3_6) (.int .i64 r7.1)), (B5_7.put 0 (zD rfl) (.int .i64 r7.1) [.int .i64 r7.1, .int .i64 r6.1.2.1, .int .i64 r6.1.2.2] rfl)⟩ ?_
   rintro w8 ⟨K8, BF_8, B0_8, B1_8, B2_8, B3_8, B4_8, B5_8⟩
   have z8 := B5_8.lies
   clear K7 f7 B0_7 B1_7 B2_7 B3_7 B4_7 B5_7
   rw [rounds_succ]
   have c9_B5_1 : w8.cell? ⟨x3_0, 1, none⟩ = some (.int .i64 r6.1.2.1) := B5_8.c 1 (zD rfl)
   go_wp2_with fail
   refine (rPart_any b r7.2 r6.1.2.1 ms 1000 _ BF_8).mono ?_
   rintro e w9 ⟨rfl, f9, k9⟩
   generalize e9 : partS r7.2 r6.1.2.1 ms 1000 = r9 at f9 ⊢
   have E9 : Hid _ := e9
   clear e9
   try dsimp only
   have K9 := Kept.trans K8 k9
   have B0_9 := B0_8.kept k9 (zG y1_BF)
   have B1_9 := B1_8.kept k9 (zG y2_BF)
   have B2_9 := B2_8.kept k9 (zG y3_BF)
   have B3_9 := B3_8.kept k9 (zG y4_BF)
   have B4_9 := B4_8.kept k9 (zG y5_BF)
   have B5_9 := B5_8.kept k9 (zG s3_1)
   have z9 := B5_9.lies
   clear c9_B5_1 K8 BF_8 B0_8 B1_8 B2_8 B3_8 B4_8 B5_8 k9
   have c10_B5_1 : w9.cell? ⟨x3_0, 1, none⟩ = some (.int .i64 r6.1.2.1) := B5_9.c 1 (zD rfl)
   have g10_B5_1 := B5_9.f 1 (zD rfl)
   go_wp2_with fail
   clear c10_B5_1 g10_B5_1
   refine rounds_letter (S := fun w' => Kept b w w' ∧ Fl b r9.2 w' ∧ Arr w.heap.size (row 43 g) w' ∧ Arr (w.heap.size + 1) [.int .i64 v.1, .int .i64 v.2.1, .int .i64 v.2.2] w' ∧ Arr (w.heap.size + 1 + 1) (row 43 (fun _ => 0)) w' ∧ Arr w1.heap.size (row 78 r1.1) w' ∧ Arr w2.heap.size (row 52 s5.1) w' ∧ Arr x3_0 [.int .i64 r7.1, .int .i64 r9.1, .int .i64 r6.1.2.2] w') ⟨(K9.new _ _ s3_0 _), (f9.new x3_0 1 (zL s3_1) (.int .i64 r9.1)), (B0_9.new x3_0 1 (zL s3_2) (.int .i64 r9.1)), (B1_9.new x3_0 1 (zL s3_3) (.int .i64 r9.1)), (B2_9.new x3_0 1 (zL s3_4) (.int .i64 r9.1)), (B3_9.new x3_0 1 (zL s3_5) (.int .i64 r9.1)), (B4_9.new x3_0 1 (zL s3_6) (.int .i64 r9.1)), (B5_9.put 1 (zD rfl) (.int .i64 r9.1) [.int .i64 r7.1, .int .i64 r9.1, .int .i64 r6.1.2.2] rfl)⟩ ?_
   rintro w10 ⟨K10, BF_10, B0_10, B1_10, B2_10, B3_10, B4_10, B5_10⟩
   have z10 := B5_10.lies
   clear K9 f9 B0_9 B1_9 B2_9 B3_9 B4_9 B5_9
   rw [rounds_succ]
   have c11_B5_2 : w10.cell? ⟨x3_0, 2, none⟩ = some (.int .i64 r6.1.2.2) := B5_10.c 2 (zD rfl)
   go_wp2_with fail
   refine (rPart_any b r9.2 r6.1.2.2 ms 1000 _ BF_10).mono ?_
   rintro e w11 ⟨rfl, f11, k11⟩
   generalize e11 : partS r9.2 r6.1.2.2 ms 1000 = r11 at f11 ⊢
   have E11 : Hid _ := e11
   clear e11
   try dsimp only
   have K11 := Kept.trans K10 k11
   have B0_11 := B0_10.kept k11 (zG y1_BF)
   have B1_11 := B1_10.kept k11 (zG y2_BF)
   have B2_11 := B2_10.kept k11 (zG y3_BF)
   have B3_11 := B3_10.kept k11 (zG y4_BF)
   have B4_11 := B4_10.kept k11 (zG y5_BF)
   have B5_11 := B5_10.kept k11 (zG s3_1)
   have z11 := B5_11.lies
   clear c11_B5_2 K10 BF_10 B0_10 B1_10 B2_10 B3_10 B4_10 B5_10 k11
   have c12_B5_2 : w11.cell? ⟨x3_0, 2, none⟩ = some (.int .i64 r6.1.2.2) := B5_11.c 2 (zD rfl)
   have g12_B5_2 := B5_11.f 2 (zD rfl)
   go_wp2_with fail
   clear c12_B5_2 g12_B5_2
   refine rounds_letter (S := fun w' => Kept b w w' ∧ Fl b r11.2 w' ∧ Arr w.heap.size (row 43 g) w' ∧ Arr (w.heap.size + 1) [.int .i64 v.1, .int .i64 v.2.1, .int .i64 v.2.2] w' ∧ Arr (w.heap.size + 1 + 1) (row 43 (fun _ => 0)) w' ∧ Arr w1.heap.size (row 78 r1.1) w' ∧ Arr w2.heap.size (row 52 s5.1) w' ∧ Arr x3_0 [.int .i64 r7.1, .int .i64 r9.1, .int .i64 r11.1] w') ⟨(K11.new _ _ s3_0 _), (f11.new x3_0 2 (zL s3_1) (.int .i64 r11.1)), (B0_11.new x3_0 2 (zL s3_2) (.int .i64 r11.1)), (B1_11.new x3_0 2 (zL s3_3) (.int .i64 r11.1)), (B2_11.new x3_0 2 (zL s3_4) (.int .i64 r11.1)), (B3_11.new x3_0 2 (zL s3_5) (.int .i64 r11.1)), (B4_11.new x3_0 2 (zL s3_6) (.int .i64 r11.1)), (B5_11.put 2 (zD rfl) (.int .i64 r11.1) [.int .i64 r7.1, .int .i64 r9.1, .int .i64 r11.1] rfl)⟩ ?_
   rintro w12 ⟨K12, BF_12, B0_12, B1_12, B2_12, B3_12, B4_12, B5_12⟩
   have z12 := B5_12.lies
   clear K11 f11 B0_11 B1_11 B2_11 B3_11 B4_11 B5_11
   rw [rounds_succ]
   go_wp2_with fail
   refine wp_region_held_drew (S := fun w' => Arr x3_0 [.int .i64 r7.1, .int .i64 r9.1, .int .i64 r11.1] w' ∧ Arr w.heap.size (row 43 g) w' ∧ Arr w1.heap.size (row 78 r1.1) w') (by kernel_rfl) ⟨B5_12.drew, B0_12.drew, B3_12.drew⟩ (fun hHeld => ?_)
   refine zT (i := 0) (v := ?v31) rfl (by kernel_rfl) (fun _ _ _ h => h) (by rfl) ?y31 hHeld ?t31
   case y31 => (intro wx hSw; go_simp <;> with_reducible rfl)
   simp only [Act.put, zA, zB, zC]
   refine zT (i := 1) (v := ?v32) rfl (by kernel_rfl) (fun _ _ _ h => h) (by rfl) ?y32 hHeld ?t32
   case y32 => (intro wx hSw; go_simp <;> with_reducible rfl)
   simp only [Act.put, zA, zB, zC]
   refine zT (i := 2) (v := ?v33) rfl (by kernel_rfl) (fun _ _ _ h => h) (by rfl) ?y33 hHeld ?t33
   case y33 => (intro wx hSw; go_simp <;> with_reducible rfl)
   simp only [Act.put, zA, zB, zC]
   refine zT (i := 3) (v := ?v34) rfl (by kernel_rfl) (fun _ _ _ h => h) (by rfl) ?y34 hHeld ?t34
   case y34 => (intro wx hSw; have hc0 : wx.cell? ⟨x3_0, 0, none⟩ = some (.int .i64 r7.1) := hSw.1.c 0 (zD rfl); have hc1 : wx.cell? ⟨x3_0, 1, none⟩ = some (.int .i64 r9.1) := hSw.1.c 1 (zD rfl); have hc2 : wx.cell? ⟨x3_0, 2, none⟩ = some (.int .i64 r11.1) := hSw.1.c 2 (zD rfl); go_simp <;> with_reducible rfl)
   simp only [Act.put, zA, zB, zC]
   refine zT (i := 5) (v := ?v35) rfl (by kernel_rfl) (fun _ _ _ h => h) (by rfl) ?y35 hHeld ?t35
   case y35 => (intro wx hSw; go_simp <;> with_reducible rfl)
   simp only [Act.put, zA, zB, zC]
   refine take_at (i := 6) rfl (by kernel_rfl) (by kernel_rfl) (by kernel_rfl) (fun _ _ _ h => h) (row_yield (by rfl) rfl rfl (fun _ hSw => hSw.2.1) (by kernel_rfl) (by rw [row_len]; kernel_rfl)) hHeld ?_
   simp only [Act.put, zA, zB, zC]
   refine zT (i := 7) (v := ?v36) rfl (by kernel_rfl) (fun _ _ _ h => h) (by rfl) ?y36 hHeld ?t36
   case y36 => (intro wx hSw; go_simp <;> with_reducible rfl)
   simp only [Act.put, zA, zB, zC]
   refine zT (i := 8) (v := ?v37) rfl (by kernel_rfl) (fun _ _ _ h => h) (by rfl) ?y37 hHeld ?t37
   case y37 => (intro wx hSw; have hi0 : (k : Int) < 13 := (by omega); go_simp <;> with_reducible rfl)
   simp only [Act.put, zA, zB, zC]
   refine take_at (i := 9) rfl (by kernel_rfl) (by kernel_rfl) (by kernel_rfl) (fun _ _ _ h => h) (part_yield (M := 6) (by rfl) rfl rfl (fun _ hSw => hSw.2.2) (by omega) (by kernel_rfl) (by rw [row_len]; kernel_rfl)) hHeld ?_
   simp only [Act.put, zA, zB, zC]
   refine call_at (i := 4) (by kernel_rfl) rfl (fun K hK => ?_)
   go_simp
   refine (yFromRod_any b r11.2 (r7.1, r9.1, r11.1) _ BF_12.drew).mono ?_
   rintro e w13 ⟨rfl, f13, k13⟩
   generalize e13 : qFromRodS r11.2 (r7.1, r9.1, r11.1) = r13 at f13 ⊢
   have E13 : Hid _ := e13
   clear e13
   have K13 : Kept b w w13 := Kept.trans K12.drew k13
   have B0_13 := B0_12.drew.kept k13 (zG y1_BF)
   have B1_13 := B1_12.drew.kept k13 (zG y2_BF)
   have B2_13 := B2_12.drew.kept k13 (zG y3_BF)
   have B3_13 := B3_12.drew.kept k13 (zG y4_BF)
   have B4_13 := B4_12.drew.kept k13 (zG y5_BF)
   have B5_13 := B5_12.drew.kept k13 (zG s3_1)
   have z13 := B5_13.lies
   clear hHeld
   refine hK.out _ _ ⟨B5_13, B0_13, B3_13⟩ (fun hHeld => ?_)
   clear hK K K12 BF_12 B0_12 B1_12 B2_12 B3_12 B4_12 B5_12 k13
   refine call_at (i := 10) (by kernel_rfl) rfl (fun K hK => ?_)
   go_simp
   refine (fattitude_any b r13.2 g (fun x_ => r1.1 (k * 6 + x_)) _ f13).mono ?_
   rintro e w14 ⟨rfl, f14, k14⟩
   generalize e14 : fattitudeS r13.2 g (fun x_ => r1.1 (k * 6 + x_)) = r14 at f14 ⊢
   have E14 : Hid _ := e14
   clear e14
   have K14 := Kept.trans K13 k14
   have B0_14 := B0_13.kept k14 (zG y1_BF)
   have B1_14 := B1_13.kept k14 (zG y2_BF)
   have B2_14 := B2_13.kept k14 (zG y3_BF)
   have B3_14 := B3_13.kept k14 (zG y4_BF)
   have B4_14 := B4_13.kept k14 (zG y5_BF)
   have B5_14 := B5_13.kept k14 (zG s3_1)
   have z14 := B5_14.lies
   clear hHeld
   refine hK.out _ _ ⟨B5_14, B0_14, B3_14⟩ (fun hHeld => ?_)
   clear hK K K13 f13 B0_13 B1_13 B2_13 B3_13 B4_13 B5_13 k14
   refine call_at (i := 11) (by kernel_rfl) rfl (fun K hK => ?_)
   go_simp
   refine (yMul_any b r14.2 r13.1 r14.1 _ f14).mono ?_
   rintro e w15 ⟨rfl, f15, k15⟩
   generalize e15 : qMulS r14.2 r13.1 r14.1 = r15 at f15 ⊢
   have E15 : Hid _ := e15
   clear e15
   have K15 := Kept.trans K14 k15
   have B0_15 := B0_14.kept k15 (zG y1_BF)
   have B1_15 := B1_14.kept k15 (zG y2_BF)
   have B2_15 := B2_14.kept k15 (zG y3_BF)
   have B3_15 := B3_14.kept k15 (zG y4_BF)
   have B4_15 := B4_14.kept k15 (zG y5_BF)
   have B5_15 := B5_14.kept k15 (zG s3_1)
   have z15 := B5_15.lies
   clear hHeld
   refine hK.out _ _ ⟨B5_15, B0_15, B3_15⟩ (fun hHeld => ?_)
   clear hK K K14 f14 B0_14 B1_14 B2_14 B3_14 B4_14 B5_14 k15
   refine zT (i := 12) (v := ?v38) rfl (by kernel_rfl) (fun _ _ _ h => h) (by rfl) ?y38 hHeld ?t38
   case y38 => (intro wx hSw; have hi0 : (k : Int) < 13 := (by omega); go_simp <;> with_reducible rfl)
   simp only [Act.put, zA, zB, zC]
   refine call_at (i := 13) (by kernel_rfl) rfl (fun K hK => ?_)
   have c14_B4_0 : w15.cell? ⟨w2.heap.size, k * 4 + 1, none⟩ = some (.int .i64 (s5.1 (k * 4 + 1))) := row_c B4_15 (k * 4 + 1) (by omega)
   have c14_B4_1 : w15.cell? ⟨w2.heap.size, k * 4 + 2, none⟩ = some (.int .i64 (s5.1 (k * 4 + 2))) := row_c B4_15 (k * 4 + 2) (by omega)
   have c14_B4_2 : w15.cell? ⟨w2.heap.size, k * 4 + 3, none⟩ = some (.int .i64 (s5.1 (k * 4 + 3))) := row_c B4_15 (k * 4 + 3) (by omega)
   have c14_B4_3 : w15.cell? ⟨w2.heap.size, k * 4, none⟩ = some (.int .i64 (s5.1 (k * 4))) := row_c B4_15 (k * 4) (by omega)
   have g14_B4_4 := row_f B4_15 (k * 4 + 1) (by omega)
   have g14_B4_5 := row_f B4_15 (k * 4 + 2) (by omega)
   have g14_B4_6 := row_f B4_15 (k * 4 + 3) (by omega)
   have g14_B4_7 := row_f B4_15 (k * 4) (by omega)
   go_simp
   clear hHeld
   refine hK.out _ _ ⟨((((B5_15.new w2.heap.size (k * 4) (zG s3_6) (.int .i64 r15.1.1)).new w2.heap.size (k * 4 + 1) (zG s3_6) (.int .i64 r15.1.2.1)).new w2.heap.size (k * 4 + 2) (zG s3_6) (.int .i64 r15.1.2.2.1)).new w2.heap.size (k * 4 + 3) (zG s3_6) (.int .i64 r15.1.2.2.2)), ((((B0_15.new w2.heap.size (k * 4) (zL y5_B0) (.int .i64 r15.1.1)).new w2.heap.size (k * 4 + 1) (zL y5_B0) (.int .i64 r15.1.2.1)).new w2.heap.size (k * 4 + 2) (zL y5_B0) (.int .i64 r15.1.2.2.1)).new w2.heap.size (k * 4 + 3) (zL y5_B0) (.int .i64 r15.1.2.2.2)), ((((B3_15.new w2.heap.size (k * 4) (zL y5_B3) (.int .i64 r15.1.1)).new w2.heap.size (k * 4 + 1) (zL y5_B3) (.int .i64 r15.1.2.1)).new w2.heap.size (k * 4 + 2) (zL y5_B3) (.int .i64 r15.1.2.2.1)).new w2.heap.size (k * 4 + 3) (zL y5_B3) (.int .i64 r15.1.2.2.2))⟩ (fun hHeld => ?_)
   clear hK K c14_B4_0 c14_B4_1 c14_B4_2 c14_B4_3 g14_B4_4 g14_B4_5 g14_B4_6 g14_B4_7
   refine wpAnyH_done (by kernel_rfl) ?_ _
   clear hHeld
   go_wp2_with fail
   have hs5 : Hid (fMoveinS_l5 g v ms r1 ((fun _ => 0), r1.2) (k + 1) = ((updF (updF (updF (updF s5.1 (k * 4) r15.1.1) (k * 4 + 1) r15.1.2.1) (k * 4 + 2) r15.1.2.2.1) (k * 4 + 3) r15.1.2.2.2), r15.2)) := by show _ = _; rw [fMoveinS_l5_succ]; unfold fMoveinS_l5s; simp only [El5.out, E4.out, E5.out, E6.out, E7.out, E9.out, E11.out, E13.out, E14.out, E15.out]
   refine give_act (fun a_ ea_ => ?_)
   rw [hJ5.out]
   intro G_ hG_
   exact hG_ ((updF (updF (updF (updF s5.1 (k * 4) r15.1.1) (k * 4 + 1) r15.1.2.1) (k * 4 + 2) r15.1.2.2.1) (k * 4 + 3) r15.1.2.2.2), r15.2) (zS a_ 0) (zS a_ 20) (zS a_ 40) (zS a_ 60) (zS a_ 80) (zS a_ 100) (zS a_ 120) (zS a_ 140) (zS a_ 160) (zS a_ 180) (zS a_ 200) hs5 (by subst ea_; rfl) ((((K15.new _ _ (by omega) _).new _ _ (by omega) _).new _ _ (by omega) _).new _ _ (by omega) _) ((((f15.new w2.heap.size (k * 4) (zL y5_BF) (.int .i64 r15.1.1)).new w2.heap.size (k * 4 + 1) (zL y5_BF) (.int .i64 r15.1.2.1)).new w2.heap.size (k * 4 + 2) (zL y5_BF) (.int .i64 r15.1.2.2.1)).new w2.heap.size (k * 4 + 3) (zL y5_BF) (.int .i64 r15.1.2.2.2)) ((((B0_15.new w2.heap.size (k * 4) (zL y5_B0) (.int .i64 r15.1.1)).new w2.heap.size (k * 4 + 1) (zL y5_B0) (.int .i64 r15.1.2.1)).new w2.heap.size (k * 4 + 2) (zL y5_B0) (.int .i64 r15.1.2.2.1)).new w2.heap.size (k * 4 + 3) (zL y5_B0) (.int .i64 r15.1.2.2.2)) ((((B1_15.new w2.heap.size (k * 4) (zL y5_B1) (.int .i64 r15.1.1)).new w2.heap.size (k * 4 + 1) (zL y5_B1) (.int .i64 r15.1.2.1)).new w2.heap.size (k * 4 + 2) (zL y5_B1) (.int .i64 r15.1.2.2.1)).new w2.heap.size (k * 4 + 3) (zL y5_B1) (.int .i64 r15.1.2.2.2)) ((((B2_15.new w2.heap.size (k * 4) (zL y5_B2) (.int .i64 r15.1.1)).new w2.heap.size (k * 4 + 1) (zL y5_B2) (.int .i64 r15.1.2.1)).new w2.heap.size (k * 4 + 2) (zL y5_B2) (.int .i64 r15.1.2.2.1)).new w2.heap.size (k * 4 + 3) (zL y5_B2) (.int .i64 r15.1.2.2.2)) ((((B3_15.new w2.heap.size (k * 4) (zL y5_B3) (.int .i64 r15.1.1)).new w2.heap.size (k * 4 + 1) (zL y5_B3) (.int .i64 r15.1.2.1)).new w2.heap.size (k * 4 + 2) (zL y5_B3) (.int .i64 r15.1.2.2.1)).new w2.heap.size (k * 4 + 3) (zL y5_B3) (.int .i64 r15.1.2.2.2)) (row_put (row_put (row_put (row_put B4_15 (k * 4) (by omega) r15.1.1) (k * 4 + 1) (by omega) r15.1.2.1) (k * 4 + 2) (by omega) r15.1.2.2.1) (k * 4 + 3) (by omega) r15.1.2.2.2)
  refine wp_region_held_drew (S := fun w' => Arr (w.heap.size + 1) [.int .i64 v.1, .int .i64 v.2.1, .int .i64 v.2.2] w' ∧ Arr w.heap.size (row 43 g) w' ∧ Arr w1.heap.size (row 78 r1.1) w') (by kernel_rfl) ⟨B1_l5.drew, B0_l5.drew, B3_l5.drew⟩ (fun hHeld => ?_)
  refine zT (i := 0) (v := ?v39) rfl (by kernel_rfl) (fun _ _ _ h => h) (by rfl) ?y39 hHeld ?t39
  case y39 => (intro wx hSw; go_simp <;> with_reducible rfl)
  simp only [Act.put, zA, zB, zC]
  refine zT (i := 1) (v := ?v40) rfl (by kernel_rfl) (fun _ _ _ h => h) (by rfl) ?y40 hHeld ?t40
  case y40 => (intro wx hSw; go_simp <;> with_reducible rfl)
  simp only [Act.put, zA, zB, zC]
  refine zT (i := 2) (v := ?v41) rfl (by kernel_rfl) (fun _ _ _ h => h) (by rfl) ?y41 hHeld ?t41
  case y41 => (intro wx hSw; have hc0 : wx.cell? ⟨w.heap.size + 1, 0, none⟩ = some (.int .i64 v.1) := hSw.1.c 0 (zD rfl); have hc1 : wx.cell? ⟨w.heap.size + 1, 1, none⟩ = some (.int .i64 v.2.1) := hSw.1.c 1 (zD rfl); have hc2 : wx.cell? ⟨w.heap.size + 1, 2, none⟩ = some (.int .i64 v.2.2) := hSw.1.c 2 (zD rfl); go_simp <;> with_reducible rfl)
  simp only [Act.put, zA, zB, zC]
  refine zT (i := 3) (v := ?v42) rfl (by kernel_rfl) (fun _ _ _ h => h) (by rfl) ?y42 hHeld ?t42
  case y42 => (intro wx hSw; go_simp <;> with_reducible rfl)
  simp only [Act.put, zA, zB, zC]
  refine zT (i := 4) (v := ?v43) rfl (by kernel_rfl) (fun _ _ _ h => h) (by rfl) ?y43 hHeld ?t43
  case y43 => (intro wx hSw; have hc0 : wx.cell? ⟨w.heap.size, 4, none⟩ = some (.int .i64 (g 4)) := row_c hSw.2.1 4 (by omega); have hc1 : wx.cell? ⟨w.heap.size, 5, none⟩ = some (.int .i64 (g 5)) := row_c hSw.2.1 5 (by omega); have hc2 : wx.cell? ⟨w.heap.size, 6, none⟩ = some (.int .i64 (g 6)) := row_c hSw.2.1 6 (by omega); go_simp <;> with_reducible rfl)
  simp only [Act.put, zA, zB, zC]
  refine zT (i := 6) (v := ?v44) rfl (by kernel_rfl) (fun _ _ _ h => h) (by rfl) ?y44 hHeld ?t44
  case y44 => (intro wx hSw; go_simp <;> with_reducible rfl)
  simp only [Act.put, zA, zB, zC]
  refine zT (i := 7) (v := ?v45) rfl (by kernel_rfl) (fun _ _ _ h => h) (by rfl) ?y45 hHeld ?t45
  case y45 => (intro wx hSw; have hi0 : (k : Int) < 13 := (by omega); go_simp <;> with_reducible rfl)
  simp only [Act.put, zA, zB, zC]
  refine take_at (i := 8) rfl (by kernel_rfl) (by kernel_rfl) (by kernel_rfl) (fun _ _ _ h => h) (part_yield (M := 6) (by rfl) rfl rfl (fun _ hSw => hSw.2.2) (by omega) (by kernel_rfl) (by rw [row_len]; kernel_rfl)) hHeld ?_
  simp only [Act.put, zA, zB, zC]
  refine call_at2 (i0 := 5) (i1 := 11) (by kernel_rfl) rfl rfl (fun K hK => ?_) (fun K hK => ?_)
  ·go_simp
   refine (xSub_any b s5.2 v ((g 4), (g 5), (g 6)) _ BF_l5.drew).mono ?_
   rintro e w4 ⟨rfl, f4, k4⟩
   generalize e4 : vSubS s5.2 v ((g 4), (g 5), (g 6)) = r4 at f4 ⊢
   have E4 : Hid _ := e4
   clear e4
   have K4 : Kept b w w4 := Kept.trans Kl5.drew k4
   have B0_4 := B0_l5.drew.kept k4 (zG y1_BF)
   have B1_4 := B1_l5.drew.kept k4 (zG y2_BF)
   have B2_4 := B2_l5.drew.kept k4 (zG y3_BF)
   have B3_4 := B3_l5.drew.kept k4 (zG y4_BF)
   have B4_4 := B4_l5.drew.kept k4 (zG y5_BF)
   have z4 := B4_4.lies
   clear hHeld
   refine hK.out _ _ ⟨B1_4, B0_4, B3_4⟩ (fun hHeld => ?_)
   clear hK K BF_l5 B0_l5 B1_l5 B2_l5 B3_l5 B4_l5 k4
   refine call_at2 (i0 := 9) (i1 := 11) (by kernel_rfl) rfl rfl (fun K hK => ?_) (fun K hK => ?_)
   ·go_simp
    refine (flast_any (fun x_ => r1.1 (k * 6 + x_)) _).mono ?_
    rintro e w5 ⟨rfl, k5⟩
    generalize e5 : flastP (fun x_ => r1.1 (k * 6 + x_)) = r5
    have E5 : Hid _ := e5
    clear e5
    have K5 : Kept b w w5 := Kept.trans K4 (Kept.of_below k5)
    have BF_5 := f4.below k5
    have B0_5 := B0_4.below k5
    have B1_5 := B1_4.below k5
    have B2_5 := B2_4.below k5
    have B3_5 := B3_4.below k5
    have B4_5 := B4_4.below k5
    have z5 := B4_5.lies
    clear hHeld
    refine hK.out _ _ ⟨B1_5, B0_5, B3_5⟩ (fun hHeld => ?_)
    clear hK K K4 f4 B0_4 B1_4 B2_4 B3_4 B4_4 k5
    refine call_at2 (i0 := 10) (i1 := 11) (by kernel_rfl) rfl rfl (fun K hK => ?_) (fun K hK => ?_)
    ·go_simp
     refine (xSub_any b r4.2 r4.1 r5 _ BF_5).mono ?_
     rintro e w6 ⟨rfl, f6, k6⟩
     generalize e6 : vSubS r4.2 r4.1 r5 = r6 at f6 ⊢
     have E6 : Hid _ := e6
     clear e6
     have K6 := Kept.trans K5 k6
     have B0_6 := B0_5.kept k6 (zG y1_BF)
     have B1_6 := B1_5.kept k6 (zG y2_BF)
     have B2_6 := B2_5.kept k6 (zG y3_BF)
     have B3_6 := B3_5.kept k6 (zG y4_BF)
     have B4_6 := B4_5.kept k6 (zG y5_BF)
     have z6 := B4_6.lies
     clear hHeld
     refine hK.out _ _ ⟨B1_6, B0_6, B3_6⟩ (fun hHeld => ?_)
     clear hK K K5 BF_5 B0_5 B1_5 B2_5 B3_5 B4_5 k6
     refine call_at (i := 11) (by kernel_rfl) rfl (fun K hK => ?_)
     have y14_BF := f6.lies
     have y14_B0 := B0_6.lies
     have y14_B1 := B1_6.lies
     have y14_B2 := B2_6.lies
     have y14_B3 := B3_6.lies
     have y14_B4 := B4_6.lies
     go_simp
     clear hHeld
     refine hK.out _ _ ⟨(B1_6.alloc _), (B0_6.alloc _), (B3_6.alloc _)⟩ (fun hHeld => ?_)
     clear hK K
     refine call_at (i := 12) (by kernel_rfl) rfl (fun K hK => ?_)
     go_simp
     clear hHeld
     refine hK.out _ _ ⟨(B1_6.alloc _), (B0_6.alloc _), (B3_6.alloc _)⟩ (fun hHeld => ?_)
     clear hK K
     refine wpAnyH_done (by kernel_rfl) ?_ _
     clear hHeld
     refine put_cont hKK3 ?_
     exact cont3 _ _ _ _ _ _ _ _ _ _ _ _ _ _ _ _ _ _ _ _ _ _ _ _ _ _ _ _ _ _ _ _ _ _ _ _ _ _ _ _ _ _ _ _ _ _ _ _ _ _ _ _ _ _ _ _ _ _ _ _ _ _ _ _ _ _ _ _ _ _ _ _ _ _ _ _ _ _ _ _ _ _ _ _ _ _ _ _ _ _ _ _ _ _ _ _ _ _ _ _ _ _ _ _ _ _ _ _ _ _ _ _ _ _ _ _ _ _ _ _ _ _ _ _ _ _ _ _ _ _ _ _ _ _ _ _ _ _ _ _ _ _ _ _ _ _ _ _ _ _ _ _ _ _ _ _ _ _ _ _ _ _ _ _ _ _ _ _ _ _ _ _ _ _ _ _ _ _ _ _ _ _ _ _ _ w6.heap.size r4 r5 r6 E4 E5 E6 (K6.al _) (f6.alloc _) (B0_6.alloc _) (B1_6.alloc _) (B2_6.alloc _) (B3_6.alloc _) (B4_6.alloc _) (Arr_at _ _ [.int .i64 r6.1.1, .int .i64 r6.1.2.1, .int .i64 r6.1.2.2] _ (by simp)) (by omega) y14_BF y14_B0 y14_B1 y14_B2 y14_B3 y14_B4
    ·have y15_BF := BF_5.lies
     have y15_B0 := B0_5.lies
     have y15_B1 := B1_5.lies
     have y15_B2 := B2_5.lies
     have y15_B3 := B3_5.lies
     have y15_B4 := B4_5.lies
     go_simp
     clear hHeld
     refine hK.out _ _ ⟨(B1_5.alloc _), (B0_5.alloc _), (B3_5.alloc _)⟩ (fun hHeld => ?_)
     clear hK K
     refine call_at (i := 10) (by kernel_rfl) rfl (fun K hK => ?_)
     go_simp
     refine (xSub_any b r4.2 r4.1 r5 _ (BF_5.alloc _)).mono ?_
     rintro e w6 ⟨rfl, f6, k6⟩
     generalize e6 : vSubS r4.2 r4.1 r5 = r6 at f6 ⊢
     have E6 : Hid _ := e6
     clear e6
     have K6 : Kept b w w6 := Kept.trans (K5.al _) k6
     have B0_6 := (B0_5.alloc _).kept k6 (zG y1_BF)
     have B1_6 := (B1_5.alloc _).kept k6 (zG y2_BF)
     have B2_6 := (B2_5.alloc _).kept k6 (zG y3_BF)
     have B3_6 := (B3_5.alloc _).kept k6 (zG y4_BF)
     have B4_6 := (B4_5.alloc _).kept k6 (zG y5_BF)
     have B5_6 : Arr w5.heap.size [.int .i64 0, .int .i64 0, .int .i64 0] w6 := (Arr_at _ _ [.int .i64 0, .int .i64 0, .int .i64 0] _ (by simp)).kept k6 (zG y15_BF)
     have z6 := B5_6.lies
     clear hHeld
     refine hK.out _ _ ⟨B1_6, B0_6, B3_6⟩ (fun hHeld => ?_)
     clear hK K K5 BF_5 B0_5 B1_5 B2_5 B3_5 B4_5 k6
     refine call_at (i := 12) (by kernel_rfl) rfl (fun K hK => ?_)
     have c7_B5_0 : w6.cell? ⟨w5.heap.size, 0, none⟩ = some (.int .i64 0) := B5_6.c 0 (zD rfl)
     have c7_B5_1 : w6.cell? ⟨w5.heap.size, 1, none⟩ = some (.int .i64 0) := B5_6.c 1 (zD rfl)
     have c7_B5_2 : w6.cell? ⟨w5.heap.size, 2, none⟩ = some (.int .i64 0) := B5_6.c 2 (zD rfl)
     have g7_B5_0 := B5_6.f 0 (zD rfl)
     have g7_B5_1 := B5_6.f 1 (zD rfl)
     have g7_B5_2 := B5_6.f 2 (zD rfl)
     go_simp
     clear hHeld
     refine hK.out _ _ ⟨(((B1_6.new w5.heap.size 0 (zL y15_B1) (.int .i64 r6.1.1)).new w5.heap.size 1 (zL y15_B1) (.int .i64 r6.1.2.1)).new w5.heap.size 2 (zL y15_B1) (.int .i64 r6.1.2.2)), (((B0_6.new w5.heap.size 0 (zL y15_B0) (.int .i64 r6.1.1)).new w5.heap.size 1 (zL y15_B0) (.int .i64 r6.1.2.1)).new w5.heap.size 2 (zL y15_B0) (.int .i64 r6.1.2.2)), (((B3_6.new w5.heap.size 0 (zL y15_B3) (.int .i64 r6.1.1)).new w5.heap.size 1 (zL y15_B3) (.int .i64 r6.1.2.1)).new w5.heap.size 2 (zL y15_B3) (.int .i64 r6.1.2.2))⟩ (fun hHeld => ?_)
     clear hK K c7_B5_0 c7_B5_1 c7_B5_2 g7_B5_0 g7_B5_1 g7_B5_2
     refine wpAnyH_done (by kernel_rfl) ?_ _
     clear hHeld
     refine put_cont hKK3 ?_
     exact cont3 _ _ _ _ _ _ _ _ _ _ _ _ _ _ _ _ _ _ _ _ _ _ _ _ _ _ _ _ _ _ _ _ _ _ _ _ _ _ _ _ _ _ _ _ _ _ _ _ _ _ _ _ _ _ _ _ _ _ _ _ _ _ _ _ _ _ _ _ _ _ _ _ _ _ _ _ _ _ _ _ _ _ _ _ _ _ _ _ _ _ _ _ _ _ _ _ _ _ _ _ _ _ _ _ _ _ _ _ _ _ _ _ _ _ _ _ _ _ _ _ _ _ _ _ _ _ _ _ _ _ _ _ _ _ _ _ _ _ _ _ _ _ _ _ _ _ _ _ _ _ _ _ _ _ _ _ _ _ _ _ _ _ _ _ _ _ _ _ _ _ _ _ _ _ _ _ _ _ _ _ _ _ _ _ _ w5.heap.size r4 r5 r6 E4 E5 E6 (((K6.new _ _ (by omega) _).new _ _ (by omega) _).new _ _ (by omega) _) (((f6.new w5.heap.size 0 (zL y15_BF) (.int .i64 r6.1.1)).new w5.heap.size 1 (zL y15_BF) (.int .i64 r6.1.2.1)).new w5.heap.size 2 (zL y15_BF) (.int .i64 r6.1.2.2)) (((B0_6.new w5.heap.size 0 (zL y15_B0) (.int .i64 r6.1.1)).new w5.heap.size 1 (zL y15_B0) (.int .i64 r6.1.2.1)).new w5.heap.size 2 (zL y15_B0) (.int .i64 r6.1.2.2)) (((B1_6.new w5.heap.size 0 (zL y15_B1) (.int .i64 r6.1.1)).new w5.heap.size 1 (zL y15_B1) (.int .i64 r6.1.2.1)).new w5.heap.size 2 (zL y15_B1) (.int .i64 r6.1.2.2)) (((B2_6.new w5.heap.size 0 (zL y15_B2) (.int .i64 r6.1.1)).new w5.heap.size 1 (zL y15_B2) (.int .i64 r6.1.2.1)).new w5.heap.size 2 (zL y15_B2) (.int .i64 r6.1.2.2)) (((B3_6.new w5.heap.size 0 (zL y15_B3) (.int .i64 r6.1.1)).new w5.heap.size 1 (zL y15_B3) (.int .i64 r6.1.2.1)).new w5.heap.size 2 (zL y15_B3) (.int .i64 r6.1.2.2)) (((B4_6.new w5.heap.size 0 (zL y15_B4) (.int .i64 r6.1.1)).new w5.heap.size 1 (zL y15_B4) (.int .i64 r6.1.2.1)).new w5.heap.size 2 (zL y15_B4) (.int .i64 r6.1.2.2)) (((B5_6.put 0 (zD rfl) (.int .i64 r6.1.1) [.int .i64 r6.1.1, .int .i64 0, .int .i64 0] rfl).put 1 (zD rfl) (.int .i64 r6.1.2.1) [.int .i64 r6.1.1, .int .i64 r6.1.2.1, .int .i64 0] rfl).put 2 (zD rfl) (.int .i64 r6.1.2.2) [.int .i64 r6.1.1, .int .i64 r6.1.2.1, .int .i64 r6.1.2.2] rfl) (by omega) y15_BF y15_B0 y15_B1 y15_B2 y15_B3 y15_B4
   ·have y16_BF := f4.lies
    have y16_B0 := B0_4.lies
    have y16_B1 := B1_4.lies
    have y16_B2 := B2_4.lies
    have y16_B3 := B3_4.lies
    have y16_B4 := B4_4.lies
    go_simp
    clear hHeld
    refine hK.out _ _ ⟨(B1_4.alloc _), (B0_4.alloc _), (B3_4.alloc _)⟩ (fun hHeld => ?_)
    clear hK K
    refine call_at (i := 9) (by kernel_rfl) rfl (fun K hK => ?_)
    go_simp
    refine (flast_any (fun x_ => r1.1 (k * 6 + x_)) _).mono ?_
    rintro e w5 ⟨rfl, k5⟩
    generalize e5 : flastP (fun x_ => r1.1 (k * 6 + x_)) = r5
    have E5 : Hid _ := e5
    clear e5
    have K5 : Kept b w w5 := Kept.trans (K4.al _) (Kept.of_below k5)
    have BF_5 := (f4.alloc _).below k5
    have B0_5 := (B0_4.alloc _).below k5
    have B1_5 := (B1_4.alloc _).below k5
    have B2_5 := (B2_4.alloc _).below k5
    have B3_5 := (B3_4.alloc _).below k5
    have B4_5 := (B4_4.alloc _).below k5
    have B5_5 : Arr w4.heap.size [.int .i64 0, .int .i64 0, .int .i64 0] w5 := (Arr_at _ _ [.int .i64 0, .int .i64 0, .int .i64 0] _ (by simp)).below k5
    have z5 := B5_5.lies
    clear hHeld
    refine hK.out _ _ ⟨B1_5, B0_5, B3_5⟩ (fun hHeld => ?_)
    clear hK K K4 f4 B0_4 B1_4 B2_4 B3_4 B4_4 k5
    refine call_at (i := 10) (by kernel_rfl) rfl (fun K hK => ?_)
    go_simp
    refine (xSub_any b r4.2 r4.1 r5 _ BF_5).mono ?_
    rintro e w6 ⟨rfl, f6, k6⟩
    generalize e6 : vSubS r4.2 r4.1 r5 = r6 at f6 ⊢
    have E6 : Hid _ := e6
    clear e6
    have K6 := Kept.trans K5 k6
    have B0_6 := B0_5.kept k6 (zG y1_BF)
    have B1_6 := B1_5.kept k6 (zG y2_BF)
    have B2_6 := B2_5.kept k6 (zG y3_BF)
    have B3_6 := B3_5.kept k6 (zG y4_BF)
    have B4_6 := B4_5.kept k6 (zG y5_BF)
    have B5_6 := B5_5.kept k6 (zG y16_BF)
    have z6 := B5_6.lies
    clear hHeld
    refine hK.out _ _ ⟨B1_6, B0_6, B3_6⟩ (fun hHeld => ?_)
    clear hK K K5 BF_5 B0_5 B1_5 B2_5 B3_5 B4_5 B5_5 k6
    refine call_at (i := 12) (by kernel_rfl) rfl (fun K hK => ?_)
    have c7_B5_0 : w6.cell? ⟨w4.heap.size, 0, none⟩ = some (.int .i64 0) := B5_6.c 0 (zD rfl)
    have c7_B5_1 : w6.cell? ⟨w4.heap.size, 1, none⟩ = some (.int .i64 0) := B5_6.c 1 (zD rfl)
    have c7_B5_2 : w6.cell? ⟨w4.heap.size, 2, none⟩ = some (.int .i64 0) := B5_6.c 2 (zD rfl)
    have g7_B5_0 := B5_6.f 0 (zD rfl)
    have g7_B5_1 := B5_6.f 1 (zD rfl)
    have g7_B5_2 := B5_6.f 2 (zD rfl)
    go_simp
    clear hHeld
    refine hK.out _ _ ⟨(((B1_6.new w4.heap.size 0 (zL y16_B1) (.int .i64 r6.1.1)).new w4.heap.size 1 (zL y16_B1) (.int .i64 r6.1.2.1)).new w4.heap.size 2 (zL y16_B1) (.int .i64 r6.1.2.2)), (((B0_6.new w4.heap.size 0 (zL y16_B0) (.int .i64 r6.1.1)).new w4.heap.size 1 (zL y16_B0) (.int .i64 r6.1.2.1)).new w4.heap.size 2 (zL y16_B0) (.int .i64 r6.1.2.2)), (((B3_6.new w4.heap.size 0 (zL y16_B3) (.int .i64 r6.1.1)).new w4.heap.size 1 (zL y16_B3) (.int .i64 r6.1.2.1)).new w4.heap.size 2 (zL y16_B3) (.int .i64 r6.1.2.2))⟩ (fun hHeld => ?_)
    clear hK K c7_B5_0 c7_B5_1 c7_B5_2 g7_B5_0 g7_B5_1 g7_B5_2
    refine wpAnyH_done (by kernel_rfl) ?_ _
    clear hHeld
    refine put_cont hKK3 ?_
    exact cont3 _ _ _ _ _ _ _ _ _ _ _ _ _ _ _ _ _ _ _ _ _ _ _ _ _ _ _ _ _ _ _ _ _ _ _ _ _ _ _ _ _ _ _ _ _ _ _ _ _ _ _ _ _ _ _ _ _ _ _ _ _ _ _ _ _ _ _ _ _ _ _ _ _ _ _ _ _ _ _ _ _ _ _ _ _ _ _ _ _ _ _ _ _ _ _ _ _ _ _ _ _ _ _ _ _ _ _ _ _ _ _ _ _ _ _ _ _ _ _ _ _ _ _ _ _ _ _ _ _ _ _ _ _ _ _ _ _ _ _ _ _ _ _ _ _ _ _ _ _ _ _ _ _ _ _ _ _ _ _ _ _ _ _ _ _ _ _ _ _ _ _ _ _ _ _ _ _ _ _ _ _ _ _ _ _ w4.heap.size r4 r5 r6 E4 E5 E6 (((K6.new _ _ (by omega) _).new _ _ (by omega) _).new _ _ (by omega) _) (((f6.new w4.heap.size 0 (zL y16_BF) (.int .i64 r6.1.1)).new w4.heap.size 1 (zL y16_BF) (.int .i64 r6.1.2.1)).new w4.heap.size 2 (zL y16_BF) (.int .i64 r6.1.2.2)) (((B0_6.new w4.heap.size 0 (zL y16_B0) (.int .i64 r6.1.1)).new w4.heap.size 1 (zL y16_B0) (.int .i64 r6.1.2.1)).new w4.heap.size 2 (zL y16_B0) (.int .i64 r6.1.2.2)) (((B1_6.new w4.heap.size 0 (zL y16_B1) (.int .i64 r6.1.1)).new w4.heap.size 1 (zL y16_B1) (.int .i64 r6.1.2.1)).new w4.heap.size 2 (zL y16_B1) (.int .i64 r6.1.2.2)) (((B2_6.new w4.heap.size 0 (zL y16_B2) (.int .i64 r6.1.1)).new w4.heap.size 1 (zL y16_B2) (.int .i64 r6.1.2.1)).new w4.heap.size 2 (zL y16_B2) (.int .i64 r6.1.2.2)) (((B3_6.new w4.heap.size 0 (zL y16_B3) (.int .i64 r6.1.1)).new w4.heap.size 1 (zL y16_B3) (.int .i64 r6.1.2.1)).new w4.heap.size 2 (zL y16_B3) (.int .i64 r6.1.2.2)) (((B4_6.new w4.heap.size 0 (zL y16_B4) (.int .i64 r6.1.1)).new w4.heap.size 1 (zL y16_B4) (.int .i64 r6.1.2.1)).new w4.heap.size 2 (zL y16_B4) (.int .i64 r6.1.2.2)) (((B5_6.put 0 (zD rfl) (.int .i64 r6.1.1) [.int .i64 r6.1.1, .int .i64 0, .int .i64 0] rfl).put 1 (zD rfl) (.int .i64 r6.1.2.1) [.int .i64 r6.1.1, .int .i64 r6.1.2.1, .int .i64 0] rfl).put 2 (zD rfl) (.int .i64 r6.1.2.2) [.int .i64 r6.1.1, .int .i64 r6.1.2.1, .int .i64 r6.1.2.2] rfl) (by omega) y16_BF y16_B0 y16_B1 y16_B2 y16_B3 y16_B4
  ·have y17_BF := BF_l5.lies
   have y17_B0 := B0_l5.lies
   have y17_B1 := B1_l5.lies
   have y17_B2 := B2_l5.lies
   have y17_B3 := B3_l5.lies
   have y17_B4 := B4_l5.lies
   go_simp
   clear hHeld
   refine hK.out _ _ ⟨(B1_l5.alloc _).drew, (B0_l5.alloc _).drew, (B3_l5.alloc _).drew⟩ (fun hHeld => ?_)
   clear hK K
   refine call_at (i := 5) (by kernel_rfl) rfl (fun K hK => ?_)
   go_simp
   refine (xSub_any b s5.2 v ((g 4), (g 5), (g 6)) _ (BF_l5.alloc _).drew).mono ?_
   rintro e w4 ⟨rfl, f4, k4⟩
   generalize e4 : vSubS s5.2 v ((g 4), (g 5), (g 6)) = r4 at f4 ⊢
   have E4 : Hid _ := e4
   clear e4
   have K4 : Kept b w w4 := Kept.trans (Kl5.al _).drew k4
   have B0_4 := (B0_l5.alloc _).drew.kept k4 (zG y1_BF)
   have B1_4 := (B1_l5.alloc _).drew.kept k4 (zG y2_BF)
   have B2_4 := (B2_l5.alloc _).drew.kept k4 (zG y3_BF)
   have B3_4 := (B3_l5.alloc _).drew.kept k4 (zG y4_BF)
   have B4_4 := (B4_l5.alloc _).drew.kept k4 (zG y5_BF)
   have B5_4 : Arr Wl5.heap.size [.int .i64 0, .int .i64 0, .int .i64 0] w4 := (Arr_at _ _ [.int .i64 0, .int .i64 0, .int .i64 0] _ (by simp)).drew.kept k4 (zG y17_BF)
   have z4 := B5_4.lies
   clear hHeld
   refine hK.out _ _ ⟨B1_4, B0_4, B3_4⟩ (fun hHeld => ?_)
   clear hK K BF_l5 B0_l5 B1_l5 B2_l5 B3_l5 B4_l5 k4
   refine call_at (i := 9) (by kernel_rfl) rfl (fun K hK => ?_)
   go_simp
   refine (flast_any (fun x_ => r1.1 (k * 6 + x_)) _).mono ?_
   rintro e w5 ⟨rfl, k5⟩
   generalize e5 : flastP (fun x_ => r1.1 (k * 6 + x_)) = r5
   have E5 : Hid _ := e5
   clear e5
   have K5 : Kept b w w5 := Kept.trans K4 (Kept.of_below k5)
   have BF_5 := f4.below k5
   have B0_5 := B0_4.below k5
   have B1_5 := B1_4.below k5
   have B2_5 := B2_4.below k5
   have B3_5 := B3_4.below k5
   have B4_5 := B4_4.below k5
   have B5_5 := B5_4.below k5
   have z5 := B5_5.lies
   clear hHeld
   refine hK.out _ _ ⟨B1_5, B0_5, B3_5⟩ (fun hHeld => ?_)
   clear hK K K4 f4 B0_4 B1_4 B2_4 B3_4 B4_4 B5_4 k5
   refine call_at (i := 10) (by kernel_rfl) rfl (fun K hK => ?_)
   go_simp
   refine (xSub_any b r4.2 r4.1 r5 _ BF_5).mono ?_
   rintro e w6 ⟨rfl, f6, k6⟩
   generalize e6 : vSubS r4.2 r4.1 r5 = r6 at f6 ⊢
   have E6 : Hid _ := e6
   clear e6
   have K6 := Kept.trans K5 k6
   have B0_6 := B0_5.kept k6 (zG y1_BF)
   have B1_6 := B1_5.kept k6 (zG y2_BF)
   have B2_6 := B2_5.kept k6 (zG y3_BF)
   have B3_6 := B3_5.kept k6 (zG y4_BF)
   have B4_6 := B4_5.kept k6 (zG y5_BF)
   have B5_6 := B5_5.kept k6 (zG y17_BF)
   have z6 := B5_6.lies
   clear hHeld
   refine hK.out _ _ ⟨B1_6, B0_6, B3_6⟩ (fun hHeld => ?_)
   clear hK K K5 BF_5 B0_5 B1_5 B2_5 B3_5 B4_5 B5_5 k6
   refine call_at (i := 12) (by kernel_rfl) rfl (fun K hK => ?_)
   have c7_B5_0 : w6.cell? ⟨Wl5.heap.size, 0, none⟩ = some (.int .i64 0) := B5_6.c 0 (zD rfl)
   have c7_B5_1 : w6.cell? ⟨Wl5.heap.size, 1, none⟩ = some (.int .i64 0) := B5_6.c 1 (zD rfl)
   have c7_B5_2 : w6.cell? ⟨Wl5.heap.size, 2, none⟩ = some (.int .i64 0) := B5_6.c 2 (zD rfl)
   have g7_B5_0 := B5_6.f 0 (zD rfl)
   have g7_B5_1 := B5_6.f 1 (zD rfl)
   have g7_B5_2 := B5_6.f 2 (zD rfl)
   go_simp
   clear hHeld
   refine hK.out _ _ ⟨(((B1_6.new Wl5.heap.size 0 (zL y17_B1) (.int .i64 r6.1.1)).new Wl5.heap.size 1 (zL y17_B1) (.int .i64 r6.1.2.1)).new Wl5.heap.size 2 (zL y17_B1) (.int .i64 r6.1.2.2)), (((B0_6.new Wl5.heap.size 0 (zL y17_B0) (.int .i64 r6.1.1)).new Wl5.heap.size 1 (zL y17_B0) (.int .i64 r6.1.2.1)).new Wl5.heap.size 2 (zL y17_B0) (.int .i64 r6.1.2.2)), (((B3_6.new Wl5.heap.size 0 (zL y17_B3) (.int .i64 r6.1.1)).new Wl5.heap.size 1 (zL y17_B3) (.int .i64 r6.1.2.1)).new Wl5.heap.size 2 (zL y17_B3) (.int .i64 r6.1.2.2))⟩ (fun hHeld => ?_)
   clear hK K c7_B5_0 c7_B5_1 c7_B5_2 g7_B5_0 g7_B5_1 g7_B5_2
   refine wpAnyH_done (by kernel_rfl) ?_ _
   clear hHeld
   refine put_cont hKK3 ?_
   exact cont3 _ _ _ _ _ _ _ _ _ _ _ _ _ _ _ _ _ _ _ _ _ _ _ _ _ _ _ _ _ _ _ _ _ _ _ _ _ _ _ _ _ _ _ _ _ _ _ _ _ _ _ _ _ _ _ _ _ _ _ _ _ _ _ _ _ _ _ _ _ _ _ _ _ _ _ _ _ _ _ _ _ _ _ _ _ _ _ _ _ _ _ _ _ _ _ _ _ _ _ _ _ _ _ _ _ _ _ _ _ _ _ _ _ _ _ _ _ _ _ _ _ _ _ _ _ _ _ _ _ _ _ _ _ _ _ _ _ _ _ _ _ _ _ _ _ _ _ _ _ _ _ _ _ _ _ _ _ _ _ _ _ _ _ _ _ _ _ _ _ _ _ _ _ _ _ _ _ _ _ _ _ _ _ _ _ Wl5.heap.size r4 r5 r6 E4 E5 E6 (((K6.new _ _ (by omega) _).new _ _ (by omega) _).new _ _ (by omega) _) (((f6.new Wl5.heap.size 0 (zL y17_BF) (.int .i64 r6.1.1)).new Wl5.heap.size 1 (zL y17_BF) (.int .i64 r6.1.2.1)).new Wl5.heap.size 2 (zL y17_BF) (.int .i64 r6.1.2.2)) (((B0_6.new Wl5.heap.size 0 (zL y17_B0) (.int .i64 r6.1.1)).new Wl5.heap.size 1 (zL y17_B0) (.int .i64 r6.1.2.1)).new Wl5.heap.size 2 (zL y17_B0) (.int .i64 r6.1.2.2)) (((B1_6.new Wl5.heap.size 0 (zL y17_B1) (.int .i64 r6.1.1)).new Wl5.heap.size 1 (zL y17_B1) (.int .i64 r6.1.2.1)).new Wl5.heap.size 2 (zL y17_B1) (.int .i64 r6.1.2.2)) (((B2_6.new Wl5.heap.size 0 (zL y17_B2) (.int .i64 r6.1.1)).new Wl5.heap.size 1 (zL y17_B2) (.int .i64 r6.1.2.1)).new Wl5.heap.size 2 (zL y17_B2) (.int .i64 r6.1.2.2)) (((B3_6.new Wl5.heap.size 0 (zL y17_B3) (.int .i64 r6.1.1)).new Wl5.heap.size 1 (zL y17_B3) (.int .i64 r6.1.2.1)).new Wl5.heap.size 2 (zL y17_B3) (.int .i64 r6.1.2.2)) (((B4_6.new Wl5.heap.size 0 (zL y17_B4) (.int .i64 r6.1.1)).new Wl5.heap.size 1 (zL y17_B4) (.int .i64 r6.1.2.1)).new Wl5.heap.size 2 (zL y17_B4) (.int .i64 r6.1.2.2)) (((B5_6.put 0 (zD rfl) (.int .i64 r6.1.1) [.int .i64 r6.1.1, .int .i64 0, .int .i64 0] rfl).put 1 (zD rfl) (.int .i64 r6.1.2.1) [.int .i64 r6.1.1, .int .i64 r6.1.2.1, .int .i64 0] rfl).put 2 (zD rfl) (.int .i64 r6.1.2.2) [.int .i64 r6.1.1, .int .i64 r6.1.2.1, .int .i64 r6.1.2.2] rfl) (by omega) y17_BF y17_B0 y17_B1 y17_B2 y17_B3 y17_B4
 ·intro a Wl5 hI R
  rw [hJ5.out] at hI
  refine hI _ ?_
  clear hI hJ5
  intro r4 A5 C5 D5 F5 G5 L5 M5 N5 O5 P5 Q5 E4 ea Kl5 BF_l5 B0_l5 B1_l5 B2_l5 B3_l5 B4_l5
  subst ea
  have zl5_BF := BF_l5.lies
  have zl5_B0 := B0_l5.lies
  have zl5_B1 := B1_l5.lies
  have zl5_B2 := B2_l5.lies
  have zl5_B3 := B3_l5.lies
  have zl5_B4 := B4_l5.lies
  have c6_B4_0 : Wl5.cell? ⟨w2.heap.size, 0, none⟩ = some (.int .i64 (r4.1 0)) := row_c B4_l5 0 (by omega)
  have c6_B4_1 : Wl5.cell? ⟨w2.heap.size, 1, none⟩ = some (.int .i64 (r4.1 1)) := row_c B4_l5 1 (by omega)
  have c6_B4_2 : Wl5.cell? ⟨w2.heap.size, 2, none⟩ = some (.int .i64 (r4.1 2)) := row_c B4_l5 2 (by omega)
  have c6_B4_3 : Wl5.cell? ⟨w2.heap.size, 3, none⟩ = some (.int .i64 (r4.1 3)) := row_c B4_l5 3 (by omega)
  go_wp2_with fail
  refine (yUnit_any b r4.2 ((r4.1 0), (r4.1 1), (r4.1 2), (r4.1 3)) _ BF_l5).mono ?_
  rintro e w5 ⟨rfl, f5, k5⟩
  generalize e5 : qUnitS r4.2 ((r4.1 0), (r4.1 1), (r4.1 2), (r4.1 3)) = r5 at f5 ⊢
  have E5 : Hid _ := e5
  clear e5
  try dsimp only
  have K5 : Kept b w w5 := Kept.trans Kl5 k5
  have B0_5 := B0_l5.kept k5 (zG y1_BF)
  have B2_5 := B2_l5.kept k5 (zG y3_BF)
  have B3_5 := B3_l5.kept k5 (zG y4_BF)
  have B4_5 := B4_l5.kept k5 (zG y5_BF)
  have z5 := B4_5.lies
  clear c6_B4_0 c6_B4_1 c6_B4_2 c6_B4_3 BF_l5 B0_l5 B2_l5 B3_l5 B4_l5 k5
  have y18_BF := f5.lies
  have y18_B0 := B0_5.lies
  have y18_B2 := B2_5.lies
  have y18_B3 := B3_5.lies
  have y18_B4 := B4_5.lies
  go_wp2_with fail
  obtain ⟨J4, hJ4⟩ : ∃ J : Nat → Act → World → Prop, Hid (J = fun k a Wl4 => ∀ G_ : Prop, (∀ (s4 : (Nat → Int) × Bool) (A4 C4 D4 F4 G4 L4 M4 N4 O4 P4 Q4 : Nat → Value), Hid (fMoveinS_l4 r4 r5 (r1.1, r5.2) k = s4) → a = { tmps := #[.pointer (some ⟨b, 0, none⟩), A4 1, A4 2, .int .i64 ms, A4 4, .pointer (some ⟨w.heap.size, 0, none⟩), A4 6, A4 7, .pointer (some ⟨w.heap.size + 1 + 1, 0, none⟩), .pointer (some ⟨w1.heap.size, 0, none⟩), .pointer (some ⟨w2.heap.size, 0, none⟩), A4 11, A4 12, A4 13, .pointer (some ⟨w5.heap.size, 0, none⟩), .int .i64 (k : Int), A4 16, A4 17, A4 18, A4 19, C4 0, C4 1, C4 2, C4 3, C4 4, C4 5, C4 6, C4 7, C4 8, C4 9, C4 10, C4 11, C4 12, C4 13, C4 14, C4 15, C4 16, C4 17, C4 18, C4 19, D4 0, D4 1, D4 2, D4 3, D4 4, D4 5, D4 6, D4 7, D4 8, D4 9, D4 10, D4 11, D4 12, D4 13, D4 14, D4 15, D4 16, D4 17, D4 18, D4 19, F4 0, F4 1, F4 2, F4 3, F4 4, F4 5, F4 6, F4 7, F4 8, F4 9, F4 10, F4 11, F4 12, F4 13, F4 14, F4 15, F4 16, F4 17, F4 18, F4 19, G4 0, G4 1, G4 2, G4 3, G4 4, G4 5, G4 6, G4 7, G4 8, G4 9, G4 10, G4 11, G4 12, G4 13, G4 14, G4 15, G4 16, G4 17, G4 18, G4 19, L4 0, L4 1, L4 2, L4 3, L4 4, L4 5, L4 6, L4 7, L4 8, L4 9, L4 10, L4 11, L4 12, L4 13, L4 14, L4 15, L4 16, L4 17, L4 18, L4 19, M4 0, M4 1, M4 2, M4 3, M4 4, M4 5, M4 6, M4 7, M4 8, M4 9, M4 10, M4 11, M4 12, M4 13, M4 14, M4 15, M4 16, M4 17, M4 18, M4 19, N4 0, N4 1, N4 2, N4 3, N4 4, N4 5, N4 6, N4 7, N4 8, N4 9, N4 10, N4 11, N4 12, N4 13, N4 14, N4 15, N4 16, N4 17, N4 18, N4 19, O4 0, O4 1, O4 2, O4 3, O4 4, O4 5, O4 6, O4 7, O4 8, O4 9, O4 10, O4 11, O4 12, O4 13, O4 14, O4 15, O4 16, O4 17, O4 18, O4 19, P4 0, P4 1, P4 2, P4 3, P4 4, P4 5, P4 6, P4 7, P4 8, P4 9, P4 10, P4 11, P4 12, P4 13, P4 14, P4 15, P4 16, P4 17, P4 18, P4 19, Q4 0, Q4 1, Q4 2, Q4 3, Q4 4, Q4 5], defers := [] } → Kept b w Wl4 → Fl b s4.2 Wl4 → Arr w.heap.size (row 43 g) Wl4 → Arr (w.heap.size + 1 + 1) (row 43 (fun _ => 0)) Wl4 → Arr w1.heap.size (row 78 s4.1) Wl4 → Arr w2.heap.size (row 52 r4.1) Wl4 → Arr w5.heap.size [.int .i64 r5.1.1, .int .i64 r5.1.2.1, .int .i64 r5.1.2.2.1, .int .i64 r5.1.2.2.2] Wl4 → G_) → G_) := ⟨_, rfl⟩
  refine rounds_up J4 13 ?_ ?_ ?_
  ·refine give_act (fun a_ ea_ => ?_)
   rw [hJ4.out]
   intro G_ hG_
   exact hG_ (r1.1, r5.2) (zS a_ 0) (zS a_ 20) (zS a_ 40) (zS a_ 60) (zS a_ 80) (zS a_ 100) (zS a_ 120) (zS a_ 140) (zS a_ 160) (zS a_ 180) (zS a_ 200) rfl (by subst ea_; rfl) (K5.al _) (f5.alloc _) (B0_5.alloc _) (B2_5.alloc _) (B3_5.alloc _) (B4_5.alloc _) (Arr_at _ _ [.int .i64 r5.1.1, .int .i64 r5.1.2.1, .int .i64 r5.1.2.2.1, .int .i64 r5.1.2.2.2] _ (by simp))
  ·intro k a Wl4 hk hI R hR
   rw [hJ4.out] at hI
   refine hI _ ?_
   clear hI
   intro s4 A4 C4 D4 F4 G4 L4 M4 N4 O4 P4 Q4 El4 ea Kl4 BF_l4 B0_l4 B2_l4 B3_l4 B4_l4 B5_l4
   subst ea
   have zl4_BF := BF_l4.lies
   have zl4_B0 := B0_l4.lies
   have zl4_B2 := B2_l4.lies
   have zl4_B3 := B3_l4.lies
   have zl4_B4 := B4_l4.lies
   have zl4_B5 := B5_l4.lies
   go_wp2_with fail
   refine get_cont (fun KK6 hKK6 => ?_)
   have cont6 : ∀ (W6 : World) (t6_4 t6_7 t6_24 t6_25 t6_26 t6_27 t6_28 t6_29 t6_30 t6_31 t6_32 t6_33 t6_34 t6_35 t6_36 t6_37 t6_38 t6_39 t6_40 t6_41 t6_42 t6_43 t6_44 t6_45 t6_46 t6_47 t6_48 t6_49 t6_50 t6_51 t6_52 t6_53 t6_54 t6_55 t6_56 t6_57 t6_58 t6_59 t6_60 t6_61 t6_62 t6_63 t6_64 t6_65 t6_66 t6_67 t6_68 t6_69 t6_70 t6_71 t6_72 t6_73 t6_74 t6_75 t6_76 t6_77 t6_78 t6_79 t6_80 t6_81 t6_82 t6_83 t6_84 t6_85 t6_86 t6_87 t6_88 t6_89 t6_90 t6_91 t6_92 t6_93 t6_94 t6_95 t6_96 t6_97 t6_98 t6_99 t6_100 t6_101 t6_102 t6_103 t6_104 t6_105 t6_106 t6_107 t6_108 t6_109 t6_110 t6_111 t6_112 t6_113 t6_114 t6_115 t6_116 t6_117 t6_118 t6_119 t6_120 t6_121 t6_122 t6_123 t6_124 t6_125 t6_126 t6_127 t6_128 t6_129 t6_130 t6_131 t6_132 t6_133 t6_134 t6_135 t6_136 t6_137 t6_138 t6_139 t6_140 t6_141 t6_142 t6_143 t6_144 t6_145 t6_146 t6_147 t6_148 t6_149 t6_150 t6_151 t6_152 t6_153 t6_154 t6_155 t6_156 t6_157 t6_158 t6_159 t6_160 t6_161 t6_162 t6_163 t6_164 t6_165 t6_166 t6_167 t6_168 t6_169 t6_170 t6_171 t6_172 t6_173 t6_174 t6_175 t6_176 t6_177 t6_178 t6_179 t6_180 t6_181 t6_182 t6_183 t6_184 t6_185 t6_186 t6_187 t6_188 t6_189 t6_190 t6_191 t6_192 t6_193 t6_194 t6_195 t6_196 t6_197 t6_198 t6_199 t6_200 t6_201 t6_202 t6_203 t6_204 t6_205 : Value) (x6_0 : Nat) (r6 : _) (r7 : _) (r8 : _) , Hid (qBackS r5.1 = r6) → Hid (qMulS s4.2 ((r4.1 (k * 4)), (r4.1 (k * 4 + 1)), (r4.1 (k * 4 + 2)), (r4.1 (k * 4 + 3))) r6 = r7) → Hid (qToRodS r7.2 r7.1 = r8) → Kept b w W6 → Fl b r8.2 W6 → Arr w.heap.size (row 43 g) W6 → Arr (w.heap.size + 1 + 1) (row 43 (fun _ => 0)) W6 → Arr w1.heap.size (row 78 s4.1) W6 → Arr w2.heap.size (row 52 r4.1) W6 → Arr w5.heap.size [.int .i64 r5.1.1, .int .i64 r5.1.2.1, .int .i64 r5.1.2.2.1, .int .i64 r5.1.2.2.2] W6 → Arr x6_0 [.int .i64 r8.1.1, .int .i64 r8.1.2.1, .int .i64 r8.1.2.2] W6 → w.heap.size ≤ x6_0 → b < x6_0 → w.heap.size < x6_0 → w.heap.size + 1 + 1 < x6_0 → w1.heap.size < x6_0 → w2.heap.size < x6_0 → w5.heap.size < x6_0 → KK6 { tmps := #[.pointer (some ⟨b, 0, none⟩), A4 1, A4 2, .int .i64 ms, t6_4, .pointer (some ⟨w.heap.size, 0, none⟩), A4 6, t6_7, .pointer (some ⟨w.heap.size + 1 + 1, 0, none⟩), .pointer (some ⟨w1.heap.size, 0, none⟩), .pointer (some ⟨w2.heap.size, 0, none⟩), A4 11, A4 12, A4 13, .pointer (some ⟨w5.heap.size, 0, none⟩), .int .i64 (k : Int), .pointer (some ⟨x6_0, 0, none⟩), A4 17, A4 18, A4 19, C4 0, C4 1, C4 2, C4 3, t6_24, t6_25, t6_26, t6_27, t6_28, t6_29, t6_30, t6_31, t6_32, t6_33, t6_34, t6_35, t6_36, t6_37, t6_38, t6_39, t6_40, t6_41, t6_42, t6_43, t6_44, t6_45, t6_46, t6_47, t6_48, t6_49, t6_50, t6_51, t6_52, t6_53, t6_54, t6_55, t6_56, t6_57, t6_58, t6_59, t6_60, t6_61, t6_62, t6_63, t6_64, t6_65, t6_66, t6_67, t6_68, t6_69, t6_70, t6_71, t6_72, t6_73, t6_74, t6_75, t6_76, t6_77, t6_78, t6_79, t6_80, t6_81, t6_82, t6_83, t6_84, t6_85, t6_86, t6_87, t6_88, t6_89, t6_90, t6_91, t6_92, t6_93, t6_94, t6_95, t6_96, t6_97, t6_98, t6_99, t6_100, t6_101, t6_102, t6_103, t6_104, t6_105, t6_106, t6_107, t6_108, t6_109, t6_110, t6_111, t6_112, t6_113, t6_114, t6_115, t6_116, t6_117, t6_118, t6_119, t6_120, t6_121, t6_122, t6_123, t6_124, t6_125, t6_126, t6_127, t6_128, t6_129, t6_130, t6_131, t6_132, t6_133, t6_134, t6_135, t6_136, t6_137, t6_138, t6_139, t6_140, t6_141, t6_142, t6_143, t6_144, t6_145, t6_146, t6_147, t6_148, t6_149, t6_150, t6_151, t6_152, t6_153, t6_154, t6_155, t6_156, t6_157, t6_158, t6_159, t6_160, t6_161, t6_162, t6_163, t6_164, t6_165, t6_166, t6_167, t6_168, t6_169, t6_170, t6_171, t6_172, t6_173, t6_174, t6_175, t6_176, t6_177, t6_178, t6_179, t6_180, t6_181, t6_182, t6_183, t6_184, t6_185, t6_186, t6_187, t6_188, t6_189, t6_190, t6_191, t6_192, t6_193, t6_194, t6_195, t6_196, t6_197, t6_198, t6_199, t6_200, t6_201, t6_202, t6_203, t6_204, t6_205], defers := [] } W6 := by
    intro W6 t6_4 t6_7 t6_24 t6_25 t6_26 t6_27 t6_28 t6_29 t6_30 t6_31 t6_32 t6_33 t6_34 t6_35 t6_36 t6_37 t6_38 t6_39 t6_40 t6_41 t6_42 t6_43 t6_44 t6_45 t6_46 t6_47 t6_48 t6_49 t6_50 t6_51 t6_52 t6_53 t6_54 t6_55 t6_56 t6_57 t6_58 t6_59 t6_60 t6_61 t6_62 t6_63 t6_64 t6_65 t6_66 t6_67 t6_68 t6_69 t6_70 t6_71 t6_72 t6_73 t6_74 t6_75 t6_76 t6_77 t6_78 t6_79 t6_80 t6_81 t6_82 t6_83 t6_84 t6_85 t6_86 t6_87 t6_88 t6_89 t6_90 t6_91 t6_92 t6_93 t6_94 t6_95 t6_96 t6_97 t6_98 t6_99 t6_100 t6_101 t6_102 t6_103 t6_104 t6_105 t6_106 t6_107 t6_108 t6_109 t6_110 t6_111 t6_112 t6_113 t6_114 t6_115 t6_116 t6_117 t6_118 t6_119 t6_120 t6_121 t6_122 t6_123 t6_124 t6_125 t6_126 t6_127 t6_128 t6_129 t6_130 t6_131 t6_132 t6_133 t6_134 t6_135 t6_136 t6_137 t6_138 t6_139 t6_140 t6_141 t6_142 t6_143 t6_144 t6_145 t6_146 t6_147 t6_148 t6_149 t6_150 t6_151 t6_152 t6_153 t6_154 t6_155 t6_156 t6_157 t6_158 t6_159 t6_160 t6_161 t6_162 t6_163 t6_164 t6_165 t6_166 t6_167 t6_168 t6_169 t6_170 t6_171 t6_172 t6_173 t6_174 t6_175 t6_176 t6_177 t6_178 t6_179 t6_180 t6_181 t6_182 t6_183 t6_184 t6_185 t6_186 t6_187 t6_188 t6_189 t6_190 t6_191 t6_192 t6_193 t6_194 t6_195 t6_196 t6_197 t6_198 t6_199 t6_200 t6_201 t6_202 t6_203 t6_204 t6_205 x6_0 r6 r7 r8 E6 E7 E8 KC6 BF_c6 B0_c6 B2_c6 B3_c6 B4_c6 B5_c6 B6_c6 s6_0 s6_1 s6_2 s6_3 s6_4 s6_5 s6_6
    have zc6_BF := BF_c6.lies
    have zc6_B0 := B0_c6.lies
    have zc6_B2 := B2_c6.lies
    have zc6_B3 := B3_c6.lies
    have zc6_B4 := B4_c6.lies
    have zc6_B5 := B5_c6.lies
    have zc6_B6 := B6_c6.lies
    rw [hKK6.out]
    dsimp only [Exit.inBlock, Exit.then]
    first | refine use_cont (by assumption) ?_ | skip
    have i9_0 : (k : Int) < 13 := by omega
    go_wp2_with fail
    clear i9_0
    refine wp_region_held_drew (S := fun w' => Arr x6_0 [.int .i64 r8.1.1, .int .i64 r8.1.2.1, .int .i64 r8.1.2.2] w') (by kernel_rfl) B6_c6.drew (fun hHeld => ?_)
    refine zT (i := 0) (v := ?v88) rfl (by kernel_rfl) (fun _ _ _ h => h) (by rfl) ?y88 hHeld ?t88
    case y88 => (intro wx hSw; go_simp <;> with_reducible rfl)
    simp only [Act.put, zA, zB, zC]
    refine zT (i := 1) (v := ?v89) rfl (by kernel_rfl) (fun _ _ _ h => h) (by rfl) ?y89 hHeld ?t89
    case y89 => (intro wx hSw; go_simp <;> with_reducible rfl)
    simp only [Act.put, zA, zB, zC]
    refine zT (i := 2) (v := ?v90) rfl (by kernel_rfl) (fun _ _ _ h => h) (by rfl) ?y90 hHeld ?t90
    case y90 => (intro wx hSw; go_simp <;> with_reducible rfl)
    simp only [Act.put, zA, zB, zC]
    refine zT (i := 3) (v := ?v91) rfl (by kernel_rfl) (fun _ _ _ h => h) (by rfl) ?y91 hHeld ?t91
    case y91 => (intro wx hSw; go_simp <;> with_reducible rfl)
    simp only [Act.put, zA, zB, zC]
    refine zT (i := 4) (v := ?v92) rfl (by kernel_rfl) (fun _ _ _ h => h) (by rfl) ?y92 hHeld ?t92
    case y92 => (intro wx hSw; have hc0 : wx.cell? ⟨x6_0, 0, none⟩ = some (.int .i64 r8.1.1) := hSw.c 0 (zD rfl); go_simp <;> with_reducible rfl)
    simp only [Act.put, zA, zB, zC]
    refine zT (i := 5) (v := ?v93) rfl (by kernel_rfl) (fun _ _ _ h => h) (by rfl) ?y93 hHeld ?t93
    case y93 => (intro wx hSw; go_simp <;> with_reducible rfl)
    simp only [Act.put, zA, zB, zC]
    refine zT (i := 6) (v := ?v94) rfl (by kernel_rfl) (fun _ _ _ h => h) (by rfl) ?y94 hHeld ?t94
    case y94 => (intro wx hSw; have hc1 : wx.cell? ⟨x6_0, 1, none⟩ = some (.int .i64 r8.1.2.1) := hSw.c 1 (zD rfl); go_simp <;> with_reducible rfl)
    simp only [Act.put, zA, zB, zC]
    refine zT (i := 7) (v := ?v95) rfl (by kernel_rfl) (fun _ _ _ h => h) (by rfl) ?y95 hHeld ?t95
    case y95 => (intro wx hSw; go_simp <;> with_reducible rfl)
    simp only [Act.put, zA, zB, zC]
    refine zT (i := 8) (v := ?v96) rfl (by kernel_rfl) (fun _ _ _ h => h) (by rfl) ?y96 hHeld ?t96
    case y96 => (intro wx hSw; have hc2 : wx.cell? ⟨x6_0, 2, none⟩ = some (.int .i64 r8.1.2.2) := hSw.c 2 (zD rfl); go_simp <;> with_reducible rfl)
    simp only [Act.put, zA, zB, zC]
    refine zT (i := 9) (v := ?v97) rfl (by kernel_rfl) (fun _ _ _ h => h) (by rfl) ?y97 hHeld ?t97
    case y97 => (intro wx hSw; have hi0 : (k : Int) < 13 := (by omega); go_simp <;> with_reducible rfl)
    simp only [Act.put, zA, zB, zC]
    refine zT (i := 10) (v := ?v98) rfl (by kernel_rfl) (fun _ _ _ h => h) (by rfl) ?y98 hHeld ?t98
    case y98 => (intro wx hSw; go_simp <;> with_reducible rfl)
    simp only [Act.put, zA, zB, zC]
    refine zT (i := 12) (v := ?v99) rfl (by kernel_rfl) (fun _ _ _ h => h) (by rfl) ?y99 hHeld ?t99
    case y99 => (intro wx hSw; have hi0 : (k : Int) < 13 := (by omega); go_simp <;> with_reducible rfl)
    simp only [Act.put, zA, zB, zC]
    refine zT (i := 15) (v := ?v100) rfl (by kernel_rfl) (fun _ _ _ h => h) (by rfl) ?y100 hHeld ?t100
    case y100 => (intro wx hSw; have hi0 : (k : Int) < 13 := (by omega); go_simp <;> with_reducible rfl)
    simp only [Act.put, zA, zB, zC]
    refine call_at (i := 11) (by kernel_rfl) rfl (fun K hK => ?_)
    have c10_B3_0 : W6.cell? ⟨w1.heap.size, k * 6, none⟩ = some (.int .i64 (s4.1 (k * 6))) := row_c B3_c6 (k * 6) (by omega)
    have g10_B3_1 := row_f B3_c6 (k * 6) (by omega)
    go_simp
    clear hHeld
    refine hK.out _ _ (B6_c6.new w1.heap.size (k * 6) (zG s6_4) (.int .i64 r8.1.1)).drew (fun hHeld => ?_)
    clear hK K c10_B3_0 g10_B3_1
    refine zT (i := 13) (v := ?v101) rfl (by kernel_rfl) (fun _ _ _ h => h) (by rfl) ?y101 hHeld ?t101
    case y101 => (intro wx hSw; go_simp <;> with_reducible rfl)
    simp only [Act.put, zA, zB, zC]
    refine call_at (i := 14) (by kernel_rfl) rfl (fun K hK => ?_)
    have c11_B3_0 : W6.cell? ⟨w1.heap.size, k * 6 + 1, none⟩ = some (.int .i64 (s4.1 (k * 6 + 1))) := row_c B3_c6 (k * 6 + 1) (by omega)
    have g11_B3_1 := row_f B3_c6 (k * 6 + 1) (by omega)
    go_simp
    clear hHeld
    refine hK.out _ _ ((B6_c6.new w1.heap.size (k * 6) (zG s6_4) (.int .i64 r8.1.1)).new w1.heap.size (k * 6 + 1) (zG s6_4) (.int .i64 r8.1.2.1)).drew (fun hHeld => ?_)
    clear hK K c11_B3_0 g11_B3_1
    refine zT (i := 16) (v := ?v102) rfl (by kernel_rfl) (fun _ _ _ h => h) (by rfl) ?y102 hHeld ?t102
    case y102 => (intro wx hSw; go_simp <;> with_reducible rfl)
    simp only [Act.put, zA, zB, zC]
    refine call_at (i := 17) (by kernel_rfl) rfl (fun K hK => ?_)
    have c12_B3_0 : W6.cell? ⟨w1.heap.size, k * 6 + 2, none⟩ = some (.int .i64 (s4.1 (k * 6 + 2))) := row_c B3_c6 (k * 6 + 2) (by omega)
    have g12_B3_1 := row_f B3_c6 (k * 6 + 2) (by omega)
    go_simp
    clear hHeld
    refine hK.out _ _ (((B6_c6.new w1.heap.size (k * 6) (zG s6_4) (.int .i64 r8.1.1)).new w1.heap.size (k * 6 + 1) (zG s6_4) (.int .i64 r8.1.2.1)).new w1.heap.size (k * 6 + 2) (zG s6_4) (.int .i64 r8.1.2.2)).drew (fun hHeld => ?_)
    clear hK K c12_B3_0 g12_B3_1
    refine wpAnyH_done (by kernel_rfl) ?_ _
    clear hHeld
    go_wp2_with fail
    have hs4 : Hid (fMoveinS_l4 r4 r5 (r1.1, r5.2) (k + 1) = ((updF (updF (updF s4.1 (k * 6) r8.1.1) (k * 6 + 1) r8.1.2.1) (k * 6 + 2) r8.1.2.2), r8.2)) := by show _ = _; rw [fMoveinS_l4_succ]; unfold fMoveinS_l4s; simp only [El4.out, E6.out, E7.out, E8.out]
    refine give_act (fun a_ ea_ => ?_)
    rw [hJ4.out]
    intro G_ hG_
    exact hG_ ((updF (updF (updF s4.1 (k * 6) r8.1.1) (k * 6 + 1) r8.1.2.1) (k * 6 + 2) r8.1.2.2), r8.2) (zS a_ 0) (zS a_ 20) (zS a_ 40) (zS a_ 60) (zS a_ 80) (zS a_ 100) (zS a_ 120) (zS a_ 140) (zS a_ 160) (zS a_ 180) (zS a_ 200) hs4 (by subst ea_; rfl) ((((KC6.new _ _ (by omega) _).new _ _ (by omega) _).new _ _ (by omega) _).drew) ((((BF_c6.new w1.heap.size (k * 6) (zL y4_BF) (.int .i64 r8.1.1)).new w1.heap.size (k * 6 + 1) (zL y4_BF) (.int .i64 r8.1.2.1)).new w1.heap.size (k * 6 + 2) (zL y4_BF) (.int .i64 r8.1.2.2)).drew) ((((B0_c6.new w1.heap.size (k * 6) (zL y4_B0) (.int .i64 r8.1.1)).new w1.heap.size (k * 6 + 1) (zL y4_B0) (.int .i64 r8.1.2.1)).new w1.heap.size (k * 6 + 2) (zL y4_B0) (.int .i64 r8.1.2.2)).drew) ((((B2_c6.new w1.heap.size (k * 6) (zL y4_B2) (.int .i64 r8.1.1)).new w1.heap.size (k * 6 + 1) (zL y4_B2) (.int .i64 r8.1.2.1)).new w1.heap.size (k * 6 + 2) (zL y4_B2) (.int .i64 r8.1.2.2)).drew) ((row_put (row_put (row_put B3_c6 (k * 6) (by omega) r8.1.1) (k * 6 + 1) (by omega) r8.1.2.1) (k * 6 + 2) (by omega) r8.1.2.2).drew) ((((B4_c6.new w1.heap.size (k * 6) (zG y5_B3) (.int .i64 r8.1.1)).new w1.heap.size (k * 6 + 1) (zG y5_B3) (.int .i64 r8.1.2.1)).new w1.heap.size (k * 6 + 2) (zG y5_B3) (.int .i64 r8.1.2.2)).drew) ((((B5_c6.new w1.heap.size (k * 6) (zG y18_B3) (.int .i64 r8.1.1)).new w1.heap.size (k * 6 + 1) (zG y18_B3) (.int .i64 r8.1.2.1)).new w1.heap.size (k * 6 + 2) (zG y18_B3) (.int .i64 r8.1.2.2)).drew)
   refine wp_region_held_drew (S := fun w' => Arr w2.heap.size (row 52 r4.1) w' ∧ Arr w5.heap.size [.int .i64 r5.1.1, .int .i64 r5.1.2.1, .int .i64 r5.1.2.2.1, .int .i64 r5.1.2.2.2] w') (by kernel_rfl) ⟨B4_l4.drew, B5_l4.drew⟩ (fun hHeld => ?_)
   refine zT (i := 0) (v := ?v103) rfl (by kernel_rfl) (fun _ _ _ h => h) (by rfl) ?y103 hHeld ?t103
   case y103 => (intro wx hSw; go_simp <;> with_reducible rfl)
   simp only [Act.put, zA, zB, zC]
   refine zT (i := 1) (v := ?v104) rfl (by kernel_rfl) (fun _ _ _ h => h) (by rfl) ?y104 hHeld ?t104
   case y104 => (intro wx hSw; go_simp <;> with_reducible rfl)
   simp only [Act.put, zA, zB, zC]
   refine zT (i := 2) (v := ?v105) rfl (by kernel_rfl) (fun _ _ _ h => h) (by rfl) ?y105 hHeld ?t105
   case y105 => (intro wx hSw; go_simp <;> with_reducible rfl)
   simp only [Act.put, zA, zB, zC]
   refine zT (i := 3) (v := ?v106) rfl (by kernel_rfl) (fun _ _ _ h => h) (by rfl) ?y106 hHeld ?t106
   case y106 => (intro wx hSw; have hi0 : (k : Int) < 13 := (by omega); go_simp <;> with_reducible rfl)
   simp only [Act.put, zA, zB, zC]
   refine zT (i := 4) (v := ?v107) rfl (by kernel_rfl) (fun _ _ _ h => h) (by rfl) ?y107 hHeld ?t107
   case y107 => (intro wx hSw; have hc0 : wx.cell? ⟨w2.heap.size, k * 4 + 1, none⟩ = some (.int .i64 (r4.1 (k * 4 + 1))) := row_c hSw.1 (k * 4 + 1) (by omega); have hc1 : wx.cell? ⟨w2.heap.size, k * 4 + 2, none⟩ = some (.int .i64 (r4.1 (k * 4 + 2))) := row_c hSw.1 (k * 4 + 2) (by omega); have hc2 : wx.cell? ⟨w2.heap.size, k * 4 + 3, none⟩ = some (.int .i64 (r4.1 (k * 4 + 3))) := row_c hSw.1 (k * 4 + 3) (by omega); have hc3 : wx.cell? ⟨w2.heap.size, k * 4, none⟩ = some (.int .i64 (r4.1 (k * 4))) := row_c hSw.1 (k * 4) (by omega); go_simp <;> with_reducible rfl)
   simp only [Act.put, zA, zB, zC]
   refine zT (i := 5) (v := ?v108) rfl (by kernel_rfl) (fun _ _ _ h => h) (by rfl) ?y108 hHeld ?t108
   case y108 => (intro wx hSw; have hc0 : wx.cell? ⟨w5.heap.size, 0, none⟩ = some (.int .i64 r5.1.1) := hSw.2.c 0 (zD rfl); have hc1 : wx.cell? ⟨w5.heap.size, 1, none⟩ = some (.int .i64 r5.1.2.1) := hSw.2.c 1 (zD rfl); have hc2 : wx.cell? ⟨w5.heap.size, 2, none⟩ = some (.int .i64 r5.1.2.2.1) := hSw.2.c 2 (zD rfl); have hc3 : wx.cell? ⟨w5.heap.size, 3, none⟩ = some (.int .i64 r5.1.2.2.2) := hSw.2.c 3 (zD rfl); go_simp <;> with_reducible rfl)
   simp only [Act.put, zA, zB, zC]
   refine call_at2 (i0 := 6) (i1 := 9) (by kernel_rfl) rfl rfl (fun K hK => ?_) (fun K hK => ?_)
   ·go_simp
    refine (yBack_any r5.1 _).mono ?_
    rintro e w6 ⟨rfl, k6⟩
    generalize e6 : qBackS r5.1 = r6
    have E6 : Hid _ := e6
    clear e6
    have K6 : Kept b w w6 := Kept.trans Kl4.drew (Kept.of_below k6)
    have BF_6 := BF_l4.drew.below k6
    have B0_6 := B0_l4.drew.below k6
    have B2_6 := B2_l4.drew.below k6
    have B3_6 := B3_l4.drew.below k6
    have B4_6 := B4_l4.drew.below k6
    have B5_6 := B5_l4.drew.below k6
    have z6 := B5_6.lies
    clear hHeld
    refine hK.out _ _ ⟨B4_6, B5_6⟩ (fun hHeld => ?_)
    clear hK K BF_l4 B0_l4 B2_l4 B3_l4 B4_l4 B5_l4 k6
    refine call_at2 (i0 := 7) (i1 := 9) (by kernel_rfl) rfl rfl (fun K hK => ?_) (fun K hK => ?_)
    ·go_simp
     refine (yMul_any b s4.2 ((r4.1 (k * 4)), (r4.1 (k * 4 + 1)), (r4.1 (k * 4 + 2)), (r4.1 (k * 4 + 3))) r6 _ BF_6).mono ?_
     rintro e w7 ⟨rfl, f7, k7⟩
     generalize e7 : qMulS s4.2 ((r4.1 (k * 4)), (r4.1 (k * 4 + 1)), (r4.1 (k * 4 + 2)), (r4.1 (k * 4 + 3))) r6 = r7 at f7 ⊢
     have E7 : Hid _ := e7
     clear e7
     have K7 := Kept.trans K6 k7
     have B0_7 := B0_6.kept k7 (zG y1_BF)
     have B2_7 := B2_6.kept k7 (zG y3_BF)
     have B3_7 := B3_6.kept k7 (zG y4_BF)
     have B4_7 := B4_6.kept k7 (zG y5_BF)
     have B5_7 := B5_6.kept k7 (zG y18_BF)
     have z7 := B5_7.lies
     clear hHeld
     refine hK.out _ _ ⟨B4_7, B5_7⟩ (fun hHeld => ?_)
     clear hK K K6 BF_6 B0_6 B2_6 B3_6 B4_6 B5_6 k7
     refine call_at2 (i0 := 8) (i1 := 9) (by kernel_rfl) rfl rfl (fun K hK => ?_) (fun K hK => ?_)
     ·go_simp
      refine (yToRod_any b r7.2 r7.1 _ f7).mono ?_
      rintro e w8 ⟨rfl, f8, k8⟩
      generalize e8 : qToRodS r7.2 r7.1 = r8 at f8 ⊢
      have E8 : Hid _ := e8
      clear e8
      have K8 := Kept.trans K7 k8
      have B0_8 := B0_7.kept k8 (zG y1_BF)
      have B2_8 := B2_7.kept k8 (zG y3_BF)
      have B3_8 := B3_7.kept k8 (zG y4_BF)
      have B4_8 := B4_7.kept k8 (zG y5_BF)
      have B5_8 := B5_7.kept k8 (zG y18_BF)
      have z8 := B5_8.lies
      clear hHeld
      refine hK.out _ _ ⟨B4_8, B5_8⟩ (fun hHeld => ?_)
      clear hK K K7 f7 B0_7 B2_7 B3_7 B4_7 B5_7 k8
      refine call_at (i := 9) (by kernel_rfl) rfl (fun K hK => ?_)
      have y27_BF := f8.lies
      have y27_B0 := B0_8.lies
      have y27_B2 := B2_8.lies
      have y27_B3 := B3_8.lies
      have y27_B4 := B4_8.lies
      have y27_B5 := B5_8.lies
      go_simp
      clear hHeld
      refine hK.out _ _ ⟨(B4_8.alloc _), (B5_8.alloc _)⟩ (fun hHeld => ?_)
      clear hK K
      refine call_at (i := 10) (by kernel_rfl) rfl (fun K hK => ?_)
      go_simp
      clear hHeld
      refine hK.out _ _ ⟨(B4_8.alloc _), (B5_8.alloc _)⟩ (fun hHeld => ?_)
      clear hK K
      refine wpAnyH_done (by kernel_rfl) ?_ _
      clear hHeld
      refine put_cont hKK6 ?_
      exact cont6 _ _ _ _ _ _ _ _ _ _ _ _ _ _ _ _ _ _ _ _ _ _ _ _ _ _ _ _ _ _ _ _ _ _ _ _ _ _ _ _ _ _ _ _ _ _ _ _ _ _ _ _ _ _ _ _ _ _ _ _ _ _ _ _ _ _ _ _ _ _ _ _ _ _ _ _ _ _ _ _ _ _ _ _ _ _ _ _ _ _ _ _ _ _ _ _ _ _ _ _ _ _ _ _ _ _ _ _ _ _ _ _ _ _ _ _ _ _ _ _ _ _ _ _ _ _ _ _ _ _ _ _ _ _ _ _ _ _ _ _ _ _ _ _ _ _ _ _ _ _ _ _ _ _ _ _ _ _ _ _ _ _ _ _ _ _ _ _ _ _ _ _ _ _ _ _ _ _ _ _ _ _ _ _ _ w8.heap.size r6 r7 r8 E6 E7 E8 (K8.al _) (f8.alloc _) (B0_8.alloc _) (B2_8.alloc _) (B3_8.alloc _) (B4_8.alloc _) (B5_8.alloc _) (Arr_at _ _ [.int .i64 r8.1.1, .int .i64 r8.1.2.1, .int .i64 r8.1.2.2] _ (by simp)) (by omega) y27_BF y27_B0 y27_B2 y27_B3 y27_B4 y27_B5
     ·have y28_BF := f7.lies
      have y28_B0 := B0_7.lies
      have y28_B2 := B2_7.lies
      have y28_B3 := B3_7.lies
      have y28_B4 := B4_7.lies
      have y28_B5 := B5_7.lies
      go_simp
      clear hHeld
      refine hK.out _ _ ⟨(B4_7.alloc _), (B5_7.alloc _)⟩ (fun hHeld => ?_)
      clear hK K
      refine call_at (i := 8) (by kernel_rfl) rfl (fun K hK => ?_)
      go_simp
      refine (yToRod_any b r7.2 r7.1 _ (f7.alloc _)).mono ?_
      rintro e w8 ⟨rfl, f8, k8⟩
      generalize e8 : qToRodS r7.2 r7.1 = r8 at f8 ⊢
      have E8 : Hid _ := e8
      clear e8
      have K8 : Kept b w w8 := Kept.trans (K7.al _) k8
      have B0_8 := (B0_7.alloc _).kept k8 (zG y1_BF)
      have B2_8 := (B2_7.alloc _).kept k8 (zG y3_BF)
      have B3_8 := (B3_7.alloc _).kept k8 (zG y4_BF)
      have B4_8 := (B4_7.alloc _).kept k8 (zG y5_BF)
      have B5_8 := (B5_7.alloc _).kept k8 (zG y18_BF)
      have B6_8 : Arr w7.heap.size [.int .i64 0, .int .i64 0, .int .i64 0] w8 := (Arr_at _ _ [.int .i64 0, .int .i64 0, .int .i64 0] _ (by simp)).kept k8 (zG y28_BF)
      have z8 := B6_8.lies
      clear hHeld
      refine hK.out _ _ ⟨B4_8, B5_8⟩ (fun hHeld => ?_)
      clear hK K K7 f7 B0_7 B2_7 B3_7 B4_7 B5_7 k8
      refine call_at (i := 10) (by kernel_rfl) rfl (fun K hK => ?_)
      have c10_B6_0 : w8.cell? ⟨w7.heap.size, 0, none⟩ = some (.int .i64 0) := B6_8.c 0 (zD rfl)
      have c10_B6_1 : w8.cell? ⟨w7.heap.size, 1, none⟩ = some (.int .i64 0) := B6_8.c 1 (zD rfl)
      have c10_B6_2 : w8.cell? ⟨w7.heap.size, 2, none⟩ = some (.int .i64 0) := B6_8.c 2 (zD rfl)
      have g10_B6_0 := B6_8.f 0 (zD rfl)
      have g10_B6_1 := B6_8.f 1 (zD rfl)
      have g10_B6_2 := B6_8.f 2 (zD rfl)
      go_simp
      clear hHeld
      refine hK.out _ _ ⟨(((B4_8.new w7.heap.size 0 (zL y28_B4) (.int .i64 r8.1.1)).new w7.heap.size 1 (zL y28_B4) (.int .i64 r8.1.2.1)).new w7.heap.size 2 (zL y28_B4) (.int .i64 r8.1.2.2)), (((B5_8.new w7.heap.size 0 (zL y28_B5) (.int .i64 r8.1.1)).new w7.heap.size 1 (zL y28_B5) (.int .i64 r8.1.2.1)).new w7.heap.size 2 (zL y28_B5) (.int .i64 r8.1.2.2))⟩ (fun hHeld => ?_)
      clear hK K c10_B6_0 c10_B6_1 c10_B6_2 g10_B6_0 g10_B6_1 g10_B6_2
      refine wpAnyH_done (by kernel_rfl) ?_ _
      clear hHeld
      refine put_cont hKK6 ?_
      exact cont6 _ _ _ _ _ _ _ _ _ _ _ _ _ _ _ _ _ _ _ _ _ _ _ _ _ _ _ _ _ _ _ _ _ _ _ _ _ _ _ _ _ _ _ _ _ _ _ _ _ _ _ _ _ _ _ _ _ _ _ _ _ _ _ _ _ _ _ _ _ _ _ _ _ _ _ _ _ _ _ _ _ _ _ _ _ _ _ _ _ _ _ _ _ _ _ _ _ _ _ _ _ _ _ _ _ _ _ _ _ _ _ _ _ _ _ _ _ _ _ _ _ _ _ _ _ _ _ _ _ _ _ _ _ _ _ _ _ _ _ _ _ _ _ _ _ _ _ _ _ _ _ _ _ _ _ _ _ _ _ _ _ _ _ _ _ _ _ _ _ _ _ _ _ _ _ _ _ _ _ _ _ _ _ _ _ w7.heap.size r6 r7 r8 E6 E7 E8 (((K8.new _ _ (by omega) _).new _ _ (by omega) _).new _ _ (by omega) _) (((f8.new w7.heap.size 0 (zL y28_BF) (.int .i64 r8.1.1)).new w7.heap.size 1 (zL y28_BF) (.int .i64 r8.1.2.1)).new w7.heap.size 2 (zL y28_BF) (.int .i64 r8.1.2.2)) (((B0_8.new w7.heap.size 0 (zL y28_B0) (.int .i64 r8.1.1)).new w7.heap.size 1 (zL y28_B0) (.int .i64 r8.1.2.1)).new w7.heap.size 2 (zL y28_B0) (.int .i64 r8.1.2.2)) (((B2_8.new w7.heap.size 0 (zL y28_B2) (.int .i64 r8.1.1)).new w7.heap.size 1 (zL y28_B2) (.int .i64 r8.1.2.1)).new w7.heap.size 2 (zL y28_B2) (.int .i64 r8.1.2.2)) (((B3_8.new w7.heap.size 0 (zL y28_B3) (.int .i64 r8.1.1)).new w7.heap.size 1 (zL y28_B3) (.int .i64 r8.1.2.1)).new w7.heap.size 2 (zL y28_B3) (.int .i64 r8.1.2.2)) (((B4_8.new w7.heap.size 0 (zL y28_B4) (.int .i64 r8.1.1)).new w7.heap.size 1 (zL y28_B4) (.int .i64 r8.1.2.1)).new w7.heap.size 2 (zL y28_B4) (.int .i64 r8.1.2.2)) (((B5_8.new w7.heap.size 0 (zL y28_B5) (.int .i64 r8.1.1)).new w7.heap.size 1 (zL y28_B5) (.int .i64 r8.1.2.1)).new w7.heap.size 2 (zL y28_B5) (.int .i64 r8.1.2.2)) (((B6_8.put 0 (zD rfl) (.int .i64 r8.1.1) [.int .i64 r8.1.1, .int .i64 0, .int .i64 0] rfl).put 1 (zD rfl) (.int .i64 r8.1.2.1) [.int .i64 r8.1.1, .int .i64 r8.1.2.1, .int .i64 0] rfl).put 2 (zD rfl) (.int .i64 r8.1.2.2) [.int .i64 r8.1.1, .int .i64 r8.1.2.1, .int .i64 r8.1.2.2] rfl) (by omega) y28_BF y28_B0 y28_B2 y28_B3 y28_B4 y28_B5
    ·have y29_BF := BF_6.lies
     have y29_B0 := B0_6.lies
     have y29_B2 := B2_6.lies
     have y29_B3 := B3_6.lies
     have y29_B4 := B4_6.lies
     have y29_B5 := B5_6.lies
     go_simp
     clear hHeld
     refine hK.out _ _ ⟨(B4_6.alloc _), (B5_6.alloc _)⟩ (fun hHeld => ?_)
     clear hK K
     refine call_at (i := 7) (by kernel_rfl) rfl (fun K hK => ?_)
     go_simp
     refine (yMul_any b s4.2 ((r4.1 (k * 4)), (r4.1 (k * 4 + 1)), (r4.1 (k * 4 + 2)), (r4.1 (k * 4 + 3))) r6 _ (BF_6.alloc _)).mono ?_
     rintro e w7 ⟨rfl, f7, k7⟩
     generalize e7 : qMulS s4.2 ((r4.1 (k * 4)), (r4.1 (k * 4 + 1)), (r4.1 (k * 4 + 2)), (r4.1 (k * 4 + 3))) r6 = r7 at f7 ⊢
     have E7 : Hid _ := e7
     clear e7
     have K7 : Kept b w w7 := Kept.trans (K6.al _) k7
     have B0_7 := (B0_6.alloc _).kept k7 (zG y1_BF)
     have B2_7 := (B2_6.alloc _).kept k7 (zG y3_BF)
     have B3_7 := (B3_6.alloc _).kept k7 (zG y4_BF)
     have B4_7 := (B4_6.alloc _).kept k7 (zG y5_BF)
     have B5_7 := (B5_6.alloc _).kept k7 (zG y18_BF)
     have B6_7 : Arr w6.heap.size [.int .i64 0, .int .i64 0, .int .i64 0] w7 := (Arr_at _ _ [.int .i64 0, .int .i64 0, .int .i64 0] _ (by simp)).kept k7 (zG y29_BF)
     have z7 := B6_7.lies
     clear hHeld
     refine hK.out _ _ ⟨B4_7, B5_7⟩ (fun hHeld => ?_)
     clear hK K K6 BF_6 B0_6 B2_6 B3_6 B4_6 B5_6 k7
     refine call_at (i := 8) (by kernel_rfl) rfl (fun K hK => ?_)
     go_simp
     refine (yToRod_any b r7.2 r7.1 _ f7).mono ?_
     rintro e w8 ⟨rfl, f8, k8⟩
     generalize e8 : qToRodS r7.2 r7.1 = r8 at f8 ⊢
     have E8 : Hid _ := e8
     clear e8
     have K8 := Kept.trans K7 k8
     have B0_8 := B0_7.kept k8 (zG y1_BF)
     have B2_8 := B2_7.kept k8 (zG y3_BF)
     have B3_8 := B3_7.kept k8 (zG y4_BF)
     have B4_8 := B4_7.kept k8 (zG y5_BF)
     have B5_8 := B5_7.kept k8 (zG y18_BF)
     have B6_8 := B6_7.kept k8 (zG y29_BF)
     have z8 := B6_8.lies
     clear hHeld
     refine hK.out _ _ ⟨B4_8, B5_8⟩ (fun hHeld => ?_)
     clear hK K K7 f7 B0_7 B2_7 B3_7 B4_7 B5_7 B6_7 k8
     refine call_at (i := 10) (by kernel_rfl) rfl (fun K hK => ?_)
     have c10_B6_0 : w8.cell? ⟨w6.heap.size, 0, none⟩ = some (.int .i64 0) := B6_8.c 0 (zD rfl)
     have c10_B6_1 : w8.cell? ⟨w6.heap.size, 1, none⟩ = some (.int .i64 0) := B6_8.c 1 (zD rfl)
     have c10_B6_2 : w8.cell? ⟨w6.heap.size, 2, none⟩ = some (.int .i64 0) := B6_8.c 2 (zD rfl)
     have g10_B6_0 := B6_8.f 0 (zD rfl)
     have g10_B6_1 := B6_8.f 1 (zD rfl)
     have g10_B6_2 := B6_8.f 2 (zD rfl)
     go_simp
     clear hHeld
     refine hK.out _ _ ⟨(((B4_8.new w6.heap.size 0 (zL y29_B4) (.int .i64 r8.1.1)).new w6.heap.size 1 (zL y29_B4) (.int .i64 r8.1.2.1)).new w6.heap.size 2 (zL y29_B4) (.int .i64 r8.1.2.2)), (((B5_8.new w6.heap.size 0 (zL y29_B5) (.int .i64 r8.1.1)).new w6.heap.size 1 (zL y29_B5) (.int .i64 r8.1.2.1)).new w6.heap.size 2 (zL y29_B5) (.int .i64 r8.1.2.2))⟩ (fun hHeld => ?_)
     clear hK K c10_B6_0 c10_B6_1 c10_B6_2 g10_B6_0 g10_B6_1 g10_B6_2
     refine wpAnyH_done (by kernel_rfl) ?_ _
     clear hHeld
     refine put_cont hKK6 ?_
     exact cont6 _ _ _ _ _ _ _ _ _ _ _ _ _ _ _ _ _ _ _ _ _ _ _ _ _ _ _ _ _ _ _ _ _ _ _ _ _ _ _ _ _ _ _ _ _ _ _ _ _ _ _ _ _ _ _ _ _ _ _ _ _ _ _ _ _ _ _ _ _ _ _ _ _ _ _ _ _ _ _ _ _ _ _ _ _ _ _ _ _ _ _ _ _ _ _ _ _ _ _ _ _ _ _ _ _ _ _ _ _ _ _ _ _ _ _ _ _ _ _ _ _ _ _ _ _ _ _ _ _ _ _ _ _ _ _ _ _ _ _ _ _ _ _ _ _ _ _ _ _ _ _ _ _ _ _ _ _ _ _ _ _ _ _ _ _ _ _ _ _ _ _ _ _ _ _ _ _ _ _ _ _ _ _ _ _ w6.heap.size r6 r7 r8 E6 E7 E8 (((K8.new _ _ (by omega) _).new _ _ (by omega) _).new _ _ (by omega) _) (((f8.new w6.heap.size 0 (zL y29_BF) (.int .i64 r8.1.1)).new w6.heap.size 1 (zL y29_BF) (.int .i64 r8.1.2.1)).new w6.heap.size 2 (zL y29_BF) (.int .i64 r8.1.2.2)) (((B0_8.new w6.heap.size 0 (zL y29_B0) (.int .i64 r8.1.1)).new w6.heap.size 1 (zL y29_B0) (.int .i64 r8.1.2.1)).new w6.heap.size 2 (zL y29_B0) (.int .i64 r8.1.2.2)) (((B2_8.new w6.heap.size 0 (zL y29_B2) (.int .i64 r8.1.1)).new w6.heap.size 1 (zL y29_B2) (.int .i64 r8.1.2.1)).new w6.heap.size 2 (zL y29_B2) (.int .i64 r8.1.2.2)) (((B3_8.new w6.heap.size 0 (zL y29_B3) (.int .i64 r8.1.1)).new w6.heap.size 1 (zL y29_B3) (.int .i64 r8.1.2.1)).new w6.heap.size 2 (zL y29_B3) (.int .i64 r8.1.2.2)) (((B4_8.new w6.heap.size 0 (zL y29_B4) (.int .i64 r8.1.1)).new w6.heap.size 1 (zL y29_B4) (.int .i64 r8.1.2.1)).new w6.heap.size 2 (zL y29_B4) (.int .i64 r8.1.2.2)) (((B5_8.new w6.heap.size 0 (zL y29_B5) (.int .i64 r8.1.1)).new w6.heap.size 1 (zL y29_B5) (.int .i64 r8.1.2.1)).new w6.heap.size 2 (zL y29_B5) (.int .i64 r8.1.2.2)) (((B6_8.put 0 (zD rfl) (.int .i64 r8.1.1) [.int .i64 r8.1.1, .int .i64 0, .int .i64 0] rfl).put 1 (zD rfl) (.int .i64 r8.1.2.1) [.int .i64 r8.1.1, .int .i64 r8.1.2.1, .int .i64 0] rfl).put 2 (zD rfl) (.int .i64 r8.1.2.2) [.int .i64 r8.1.1, .int .i64 r8.1.2.1, .int .i64 r8.1.2.2] rfl) (by omega) y29_BF y29_B0 y29_B2 y29_B3 y29_B4 y29_B5
   ·have y30_BF := BF_l4.lies
    have y30_B0 := B0_l4.lies
    have y30_B2 := B2_l4.lies
    have y30_B3 := B3_l4.lies
    have y30_B4 := B4_l4.lies
    have y30_B5 := B5_l4.lies
    go_simp
    clear hHeld
    refine hK.out _ _ ⟨(B4_l4.alloc _).drew, (B5_l4.alloc _).drew⟩ (fun hHeld => ?_)
    clear hK K
    refine call_at (i := 6) (by kernel_rfl) rfl (fun K hK => ?_)
    go_simp
    refine (yBack_any r5.1 _).mono ?_
    rintro e w6 ⟨rfl, k6⟩
    generalize e6 : qBackS r5.1 = r6
    have E6 : Hid _ := e6
    clear e6
    have K6 : Kept b w w6 := Kept.trans (Kl4.al _).drew (Kept.of_below k6)
    have BF_6 := (BF_l4.alloc _).drew.below k6
    have B0_6 := (B0_l4.alloc _).drew.below k6
    have B2_6 := (B2_l4.alloc _).drew.below k6
    have B3_6 := (B3_l4.alloc _).drew.below k6
    have B4_6 := (B4_l4.alloc _).drew.below k6
    have B5_6 := (B5_l4.alloc _).drew.below k6
    have B6_6 : Arr Wl4.heap.size [.int .i64 0, .int .i64 0, .int .i64 0] w6 := (Arr_at _ _ [.int .i64 0, .int .i64 0, .int .i64 0] _ (by simp)).drew.below k6
    have z6 := B6_6.lies
    clear hHeld
    refine hK.out _ _ ⟨B4_6, B5_6⟩ (fun hHeld => ?_)
    clear hK K BF_l4 B0_l4 B2_l4 B3_l4 B4_l4 B5_l4 k6
    refine call_at (i := 7) (by kernel_rfl) rfl (fun K hK => ?_)
    go_simp
    refine (yMul_any b s4.2 ((r4.1 (k * 4)), (r4.1 (k * 4 + 1)), (r4.1 (k * 4 + 2)), (r4.1 (k * 4 + 3))) r6 _ BF_6).mono ?_
    rintro e w7 ⟨rfl, f7, k7⟩
    generalize e7 : qMulS s4.2 ((r4.1 (k * 4)), (r4.1 (k * 4 + 1)), (r4.1 (k * 4 + 2)), (r4.1 (k * 4 + 3))) r6 = r7 at f7 ⊢
    have E7 : Hid _ := e7
    clear e7
    have K7 := Kept.trans K6 k7
    have B0_7 := B0_6.kept k7 (zG y1_BF)
    have B2_7 := B2_6.kept k7 (zG y3_BF)
    have B3_7 := B3_6.kept k7 (zG y4_BF)
    have B4_7 := B4_6.kept k7 (zG y5_BF)
    have B5_7 := B5_6.kept k7 (zG y18_BF)
    have B6_7 := B6_6.kept k7 (zG y30_BF)
    have z7 := B6_7.lies
    clear hHeld
    refine hK.out _ _ ⟨B4_7, B5_7⟩ (fun hHeld => ?_)
    clear hK K K6 BF_6 B0_6 B2_6 B3_6 B4_6 B5_6 B6_6 k7
    refine call_at (i := 8) (by kernel_rfl) rfl (fun K hK => ?_)
    go_simp
    refine (yToRod_any b r7.2 r7.1 _ f7).mono ?_
    rintro e w8 ⟨rfl, f8, k8⟩
    generalize e8 : qToRodS r7.2 r7.1 = r8 at f8 ⊢
    have E8 : Hid _ := e8
    clear e8
    have K8 := Kept.trans K7 k8
    have B0_8 := B0_7.kept k8 (zG y1_BF)
    have B2_8 := B2_7.kept k8 (zG y3_BF)
    have B3_8 := B3_7.kept k8 (zG y4_BF)
    have B4_8 := B4_7.kept k8 (zG y5_BF)
    have B5_8 := B5_7.kept k8 (zG y18_BF)
    have B6_8 := B6_7.kept k8 (zG y30_BF)
    have z8 := B6_8.lies
    clear hHeld
    refine hK.out _ _ ⟨B4_8, B5_8⟩ (fun hHeld => ?_)
    clear hK K K7 f7 B0_7 B2_7 B3_7 B4_7 B5_7 B6_7 k8
    refine call_at (i := 10) (by kernel_rfl) rfl (fun K hK => ?_)
    have c10_B6_0 : w8.cell? ⟨Wl4.heap.size, 0, none⟩ = some (.int .i64 0) := B6_8.c 0 (zD rfl)
    have c10_B6_1 : w8.cell? ⟨Wl4.heap.size, 1, none⟩ = some (.int .i64 0) := B6_8.c 1 (zD rfl)
    have c10_B6_2 : w8.cell? ⟨Wl4.heap.size, 2, none⟩ = some (.int .i64 0) := B6_8.c 2 (zD rfl)
    have g10_B6_0 := B6_8.f 0 (zD rfl)
    have g10_B6_1 := B6_8.f 1 (zD rfl)
    have g10_B6_2 := B6_8.f 2 (zD rfl)
    go_simp
    clear hHeld
    refine hK.out _ _ ⟨(((B4_8.new Wl4.heap.size 0 (zL y30_B4) (.int .i64 r8.1.1)).new Wl4.heap.size 1 (zL y30_B4) (.int .i64 r8.1.2.1)).new Wl4.heap.size 2 (zL y30_B4) (.int .i64 r8.1.2.2)), (((B5_8.new Wl4.heap.size 0 (zL y30_B5) (.int .i64 r8.1.1)).new Wl4.heap.size 1 (zL y30_B5) (.int .i64 r8.1.2.1)).new Wl4.heap.size 2 (zL y30_B5) (.int .i64 r8.1.2.2))⟩ (fun hHeld => ?_)
    clear hK K c10_B6_0 c10_B6_1 c10_B6_2 g10_B6_0 g10_B6_1 g10_B6_2
    refine wpAnyH_done (by kernel_rfl) ?_ _
    clear hHeld
    refine put_cont hKK6 ?_
    exact cont6 _ _ _ _ _ _ _ _ _ _ _ _ _ _ _ _ _ _ _ _ _ _ _ _ _ _ _ _ _ _ _ _ _ _ _ _ _ _ _ _ _ _ _ _ _ _ _ _ _ _ _ _ _ _ _ _ _ _ _ _ _ _ _ _ _ _ _ _ _ _ _ _ _ _ _ _ _ _ _ _ _ _ _ _ _ _ _ _ _ _ _ _ _ _ _ _ _ _ _ _ _ _ _ _ _ _ _ _ _ _ _ _ _ _ _ _ _ _ _ _ _ _ _ _ _ _ _ _ _ _ _ _ _ _ _ _ _ _ _ _ _ _ _ _ _ _ _ _ _ _ _ _ _ _ _ _ _ _ _ _ _ _ _ _ _ _ _ _ _ _ _ _ _ _ _ _ _ _ _ _ _ _ _ _ _ Wl4.heap.size r6 r7 r8 E6 E7 E8 (((K8.new _ _ (by omega) _).new _ _ (by omega) _).new _ _ (by omega) _) (((f8.new Wl4.heap.size 0 (zL y30_BF) (.int .i64 r8.1.1)).new Wl4.heap.size 1 (zL y30_BF) (.int .i64 r8.1.2.1)).new Wl4.heap.size 2 (zL y30_BF) (.int .i64 r8.1.2.2)) (((B0_8.new Wl4.heap.size 0 (zL y30_B0) (.int .i64 r8.1.1)).new Wl4.heap.size 1 (zL y30_B0) (.int .i64 r8.1.2.1)).new Wl4.heap.size 2 (zL y30_B0) (.int .i64 r8.1.2.2)) (((B2_8.new Wl4.heap.size 0 (zL y30_B2) (.int .i64 r8.1.1)).new Wl4.heap.size 1 (zL y30_B2) (.int .i64 r8.1.2.1)).new Wl4.heap.size 2 (zL y30_B2) (.int .i64 r8.1.2.2)) (((B3_8.new Wl4.heap.size 0 (zL y30_B3) (.int .i64 r8.1.1)).new Wl4.heap.size 1 (zL y30_B3) (.int .i64 r8.1.2.1)).new Wl4.heap.size 2 (zL y30_B3) (.int .i64 r8.1.2.2)) (((B4_8.new Wl4.heap.size 0 (zL y30_B4) (.int .i64 r8.1.1)).new Wl4.heap.size 1 (zL y30_B4) (.int .i64 r8.1.2.1)).new Wl4.heap.size 2 (zL y30_B4) (.int .i64 r8.1.2.2)) (((B5_8.new Wl4.heap.size 0 (zL y30_B5) (.int .i64 r8.1.1)).new Wl4.heap.size 1 (zL y30_B5) (.int .i64 r8.1.2.1)).new Wl4.heap.size 2 (zL y30_B5) (.int .i64 r8.1.2.2)) (((B6_8.put 0 (zD rfl) (.int .i64 r8.1.1) [.int .i64 r8.1.1, .int .i64 0, .int .i64 0] rfl).put 1 (zD rfl) (.int .i64 r8.1.2.1) [.int .i64 r8.1.1, .int .i64 r8.1.2.1, .int .i64 0] rfl).put 2 (zD rfl) (.int .i64 r8.1.2.2) [.int .i64 r8.1.1, .int .i64 r8.1.2.1, .int .i64 r8.1.2.2] rfl) (by omega) y30_BF y30_B0 y30_B2 y30_B3 y30_B4 y30_B5
  ·intro a Wl4 hI R
   rw [hJ4.out] at hI
   refine hI _ ?_
   clear hI hJ4
   intro r6 A4 C4 D4 F4 G4 L4 M4 N4 O4 P4 Q4 E6 ea Kl4 BF_l4 B0_l4 B2_l4 B3_l4 B4_l4 B5_l4
   subst ea
   have zl4_BF := BF_l4.lies
   have zl4_B0 := B0_l4.lies
   have zl4_B2 := B2_l4.lies
   have zl4_B3 := B3_l4.lies
   have zl4_B4 := B4_l4.lies
   have zl4_B5 := B5_l4.lies
   have y31_BF := BF_l4.lies
   have y31_B0 := B0_l4.lies
   have y31_B2 := B2_l4.lies
   have y31_B3 := B3_l4.lies
   have y31_B5 := B5_l4.lies
   go_wp2_with fail
   obtain ⟨J3, hJ3⟩ : ∃ J : Nat → Act → World → Prop, Hid (J = fun i a Wl3 => ∀ G_ : Prop, (∀ (s3 : (Nat → Int) × Bool) (A3 C3 D3 F3 G3 L3 M3 N3 O3 P3 Q3 : Nat → Value), Hid (fMoveinS_l3 r6 ((fun _ => 0), r6.2) i = s3) → a = { tmps := #[.pointer (some ⟨b, 0, none⟩), A3 1, A3 2, .int .i64 ms, A3 4, .pointer (some ⟨w.heap.size, 0, none⟩), A3 6, A3 7, .pointer (some ⟨w.heap.size + 1 + 1, 0, none⟩), .pointer (some ⟨w1.heap.size, 0, none⟩), A3 10, A3 11, A3 12, A3 13, .pointer (some ⟨w5.heap.size, 0, none⟩), A3 15, A3 16, .pointer (some ⟨Wl4.heap.size, 0, none⟩), .int .i64 (i : Int), A3 19, C3 0, C3 1, C3 2, C3 3, C3 4, C3 5, C3 6, C3 7, C3 8, C3 9, C3 10, C3 11, C3 12, C3 13, C3 14, C3 15, C3 16, C3 17, C3 18, C3 19, D3 0, D3 1, D3 2, D3 3, D3 4, D3 5, D3 6, D3 7, D3 8, D3 9, D3 10, D3 11, D3 12, D3 13, D3 14, D3 15, D3 16, D3 17, D3 18, D3 19, F3 0, F3 1, F3 2, F3 3, F3 4, F3 5, F3 6, F3 7, F3 8, F3 9, F3 10, F3 11, F3 12, F3 13, F3 14, F3 15, F3 16, F3 17, F3 18, F3 19, G3 0, G3 1, G3 2, G3 3, G3 4, G3 5, G3 6, G3 7, G3 8, G3 9, G3 10, G3 11, G3 12, G3 13, G3 14, G3 15, G3 16, G3 17, G3 18, G3 19, L3 0, L3 1, L3 2, L3 3, L3 4, L3 5, L3 6, L3 7, L3 8, L3 9, L3 10, L3 11, L3 12, L3 13, L3 14, L3 15, L3 16, L3 17, L3 18, L3 19, M3 0, M3 1, M3 2, M3 3, M3 4, M3 5, M3 6, M3 7, M3 8, M3 9, M3 10, M3 11, M3 12, M3 13, M3 14, M3 15, M3 16, M3 17, M3 18, M3 19, N3 0, N3 1, N3 2, N3 3, N3 4, N3 5, N3 6, N3 7, N3 8, N3 9, N3 10, N3 11, N3 12, N3 13, N3 14, N3 15, N3 16, N3 17, N3 18, N3 19, O3 0, O3 1, O3 2, O3 3, O3 4, O3 5, O3 6, O3 7, O3 8, O3 9, O3 10, O3 11, O3 12, O3 13, O3 14, O3 15, O3 16, O3 17, O3 18, O3 19, P3 0, P3 1, P3 2, P3 3, P3 4, P3 5, P3 6, P3 7, P3 8, P3 9, P3 10, P3 11, P3 12, P3 13, P3 14, P3 15, P3 16, P3 17, P3 18, P3 19, Q3 0, Q3 1, Q3 2, Q3 3, Q3 4, Q3 5], defers := [] } → Kept b w Wl3 → Fl b s3.2 Wl3 → Arr w.heap.size (row 43 g) Wl3 → Arr (w.heap.size + 1 + 1) (row 43 (fun _ => 0)) Wl3 → Arr w1.heap.size (row 78 r6.1) Wl3 → Arr w5.heap.size [.int .i64 r5.1.1, .int .i64 r5.1.2.1, .int .i64 r5.1.2.2.1, .int .i64 r5.1.2.2.2] Wl3 → Arr Wl4.heap.size (row 6 s3.1) Wl3 → G_) → G_) := ⟨_, rfl⟩
   refine rounds_up J3 6 ?_ ?_ ?_
   ·refine give_act (fun a_ ea_ => ?_)
    rw [hJ3.out]
    intro G_ hG_
    exact hG_ ((fun _ => 0), r6.2) (zS a_ 0) (zS a_ 20) (zS a_ 40) (zS a_ 60) (zS a_ 80) (zS a_ 100) (zS a_ 120) (zS a_ 140) (zS a_ 160) (zS a_ 180) (zS a_ 200) rfl (by subst ea_; rfl) (Kl4.al _) (BF_l4.alloc _) (B0_l4.alloc _) (B2_l4.alloc _) (B3_l4.alloc _) (B5_l4.alloc _) (Arr_at _ _ (row 6 (fun _ => 0)) _ (by simp))
   ·intro i a Wl3 hi hI R hR
    rw [hJ3.out] at hI
    refine hI _ ?_
    clear hI
    intro s3 A3 C3 D3 F3 G3 L3 M3 N3 O3 P3 Q3 El3 ea Kl3 BF_l3 B0_l3 B2_l3 B3_l3 B5_l3 B6_l3
    subst ea
    have zl3_BF := BF_l3.lies
    have zl3_B0 := B0_l3.lies
    have zl3_B2 := B2_l3.lies
    have zl3_B3 := B3_l3.lies
    have zl3_B5 := B5_l3.lies
    have zl3_B6 := B6_l3.lies
    go_wp2_with (refine row_load rfl rfl rfl B3_l3 (by kernel_rfl) (by rw [row_len]; kernel_rfl) ?_)
    refine (fmean_any b s3.2 r6.1 i _ BF_l3 (by omega)).mono ?_
    rintro e w7 ⟨rfl, f7, k7⟩
    generalize e7 : fmeanS s3.2 r6.1 i = r7 at f7 ⊢
    have E7 : Hid _ := e7
    clear e7
    try dsimp only
    have K7 : Kept b w w7 := Kept.trans Kl3 k7
    have B0_7 := B0_l3.kept k7 (zG y1_BF)
    have B2_7 := B2_l3.kept k7 (zG y3_BF)
    have B3_7 := B3_l3.kept k7 (zG y4_BF)
    have B5_7 := B5_l3.kept k7 (zG y18_BF)
    have B6_7 := B6_l3.kept k7 (zG y31_BF)
    have z7 := B6_7.lies
    clear BF_l3 B0_l3 B2_l3 B3_l3 B5_l3 B6_l3 k7
    have c11_B6_0 : w7.cell? ⟨Wl4.heap.size, i, none⟩ = some (.int .i64 (s3.1 i)) := row_c B6_7 i (by omega)
    have g11_B6_1 := row_f B6_7 i (by omega)
    have i11_2 : (i : Int) < 6 := by omega
    go_wp2_with fail
    clear c11_B6_0 g11_B6_1 i11_2
    have hs3 : Hid (fMoveinS_l3 r6 ((fun _ => 0), r6.2) (i + 1) = ((updF s3.1 i r7.1), r7.2)) := by show _ = _; rw [fMoveinS_l3_succ]; unfold fMoveinS_l3s; simp only [El3.out, E7.out]
    refine give_act (fun a_ ea_ => ?_)
    rw [hJ3.out]
    intro G_ hG_
    exact hG_ ((updF s3.1 i r7.1), r7.2) (zS a_ 0) (zS a_ 20) (zS a_ 40) (zS a_ 60) (zS a_ 80) (zS a_ 100) (zS a_ 120) (zS a_ 140) (zS a_ 160) (zS a_ 180) (zS a_ 200) hs3 (by subst ea_; rfl) (K7.new _ _ (by omega) _) (f7.new Wl4.heap.size i (zL y31_BF) (.int .i64 r7.1)) (B0_7.new Wl4.heap.size i (zL y31_B0) (.int .i64 r7.1)) (B2_7.new Wl4.heap.size i (zL y31_B2) (.int .i64 r7.1)) (B3_7.new Wl4.heap.size i (zL y31_B3) (.int .i64 r7.1)) (B5_7.new Wl4.heap.size i (zL y31_B5) (.int .i64 r7.1)) (row_put B6_7 i (by omega) r7.1)
   ·intro a Wl3 hI R
    rw [hJ3.out] at hI
    refine hI _ ?_
    clear hI hJ3
    intro r8 A3 C3 D3 F3 G3 L3 M3 N3 O3 P3 Q3 E8 ea Kl3 BF_l3 B0_l3 B2_l3 B3_l3 B5_l3 B6_l3
    subst ea
    have zl3_BF := BF_l3.lies
    have zl3_B0 := B0_l3.lies
    have zl3_B2 := B2_l3.lies
    have zl3_B3 := B3_l3.lies
    have zl3_B5 := B5_l3.lies
    have zl3_B6 := B6_l3.lies
    go_wp2_with (first | (refine row_load rfl rfl rfl B3_l3 (by kernel_rfl) (by rw [row_len]; kernel_rfl) ?_) | (refine row_load rfl rfl rfl B6_l3 (by kernel_rfl) (by rw [row_len]; kernel_rfl) ?_))
    refine (fless_any b r8.2 r6.1 r8.1 _ BF_l3).mono ?_
    rintro e w9 ⟨rfl, f9, k9⟩
    generalize e9 : flessS r8.2 r6.1 r8.1 = r9 at f9 ⊢
    have E9 : Hid _ := e9
    clear e9
    try dsimp only
    have K9 : Kept b w w9 := Kept.trans Kl3 k9
    have B0_9 := B0_l3.kept k9 (zG y1_BF)
    have B2_9 := B2_l3.kept k9 (zG y3_BF)
    have B3_9 := B3_l3.kept k9 (zG y4_BF)
    have B5_9 := B5_l3.kept k9 (zG y18_BF)
    have B6_9 := B6_l3.kept k9 (zG y31_BF)
    have z9 := B6_9.lies
    clear BF_l3 B0_l3 B2_l3 B3_l3 B5_l3 B6_l3 k9
    have y32_BF := f9.lies
    have y32_B0 := B0_9.lies
    have y32_B2 := B2_9.lies
    have y32_B3 := B3_9.lies
    have y32_B5 := B5_9.lies
    have y32_B6 := B6_9.lies
    go_wp2_with (refine store_stop rfl (by kernel_rfl) ?_)
    refine Stop.mk (store_row (l' := row 78 r9.1) rfl rfl rfl rfl (Arr_at _ _ (row 78 (fun _ => 0)) _ (by simp)) (by simp only [row_len]) (by rw [row_len]; kernel_rfl) (row_one _ _) ?_)
    intro w10 B7_10 o10
    have K10 : Kept b w w10 := Kept.off (K9.al _) o10 (by omega)
    have BF_10 := (f9.alloc _).off o10 (zL y32_BF)
    have B0_10 := (B0_9.alloc _).off o10 (zL y32_B0)
    have B2_10 := (B2_9.alloc _).off o10 (zL y32_B2)
    have B3_10 := (B3_9.alloc _).off o10 (zL y32_B3)
    have B5_10 := (B5_9.alloc _).off o10 (zL y32_B5)
    have B6_10 := (B6_9.alloc _).off o10 (zL y32_B6)
    have z10_B7 := B7_10.lies
    have z10_BF := BF_10.lies
    have z10_B0 := B0_10.lies
    have z10_B2 := B2_10.lies
    have z10_B3 := B3_10.lies
    have z10_B5 := B5_10.lies
    have z10_B6 := B6_10.lies
    clear K9 f9 B0_9 B2_9 B3_9 B5_9 B6_9 o10
    have y33_BF := BF_10.lies
    have y33_B0 := B0_10.lies
    have y33_B2 := B2_10.lies
    have y33_B5 := B5_10.lies
    have y33_B6 := B6_10.lies
    have y33_B7 := B7_10.lies
    go_wp2_with (refine store_stop rfl (by kernel_rfl) ?_)
    refine Stop.mk (store_row (l' := row 43 (fun _ => 0)) rfl rfl rfl rfl (Arr_at _ _ (row 43 (fun _ => 0)) _ (by simp)) (by simp only [row_len]) (by rw [row_len]; kernel_rfl) (row_one _ _) ?_)
    intro w11 B8_11 o11
    have K11 : Kept b w w11 := Kept.off (K10.al _) o11 (by omega)
    have BF_11 := (BF_10.alloc _).off o11 (zL y33_BF)
    have B0_11 := (B0_10.alloc _).off o11 (zL y33_B0)
    have B2_11 := (B2_10.alloc _).off o11 (zL y33_B2)
    have B5_11 := (B5_10.alloc _).off o11 (zL y33_B5)
    have B6_11 := (B6_10.alloc _).off o11 (zL y33_B6)
    have B7_11 := (B7_10.alloc _).off o11 (zL y33_B7)
    have z11_B8 := B8_11.lies
    have z11_BF := BF_11.lies
    have z11_B0 := B0_11.lies
    have z11_B2 := B2_11.lies
    have z11_B5 := B5_11.lies
    have z11_B6 := B6_11.lies
    have z11_B7 := B7_11.lies
    clear K10 BF_10 B0_10 B2_10 B5_10 B6_10 B7_10 o11
    go_wp2_with fail
    obtain ⟨J1, hJ1⟩ : ∃ J : Nat → Act → World → Prop, Hid (J = fun i a Wl1 => ∀ G_ : Prop, (∀ (s1 : (Nat → Int) × Bool) (A1 C1 D1 F1 G1 L1 M1 N1 O1 P1 Q1 : Nat → Value), Hid (fMoveinS_l1 r9 ((fun _ => 0), r9.2) i = s1) → a = { tmps := #[.pointer (some ⟨b, 0, none⟩), A1 1, A1 2, .int .i64 ms, A1 4, .pointer (some ⟨w.heap.size, 0, none⟩), A1 6, A1 7, .pointer (some ⟨w.heap.size + 1 + 1, 0, none⟩), A1 9, A1 10, A1 11, A1 12, A1 13, .pointer (some ⟨w5.heap.size, 0, none⟩), A1 15, A1 16, .pointer (some ⟨Wl4.heap.size, 0, none⟩), A1 18, .pointer (some ⟨w9.heap.size, 0, none⟩), .pointer (some ⟨w10.heap.size, 0, none⟩), .int .i64 (i : Int), C1 2, C1 3, C1 4, C1 5, C1 6, C1 7, C1 8, C1 9, C1 10, C1 11, C1 12, C1 13, C1 14, C1 15, C1 16, C1 17, C1 18, C1 19, D1 0, D1 1, D1 2, D1 3, D1 4, D1 5, D1 6, D1 7, D1 8, D1 9, D1 10, D1 11, D1 12, D1 13, D1 14, D1 15, D1 16, D1 17, D1 18, D1 19, F1 0, F1 1, F1 2, F1 3, F1 4, F1 5, F1 6, F1 7, F1 8, F1 9, F1 10, F1 11, F1 12, F1 13, F1 14, F1 15, F1 16, F1 17, F1 18, F1 19, G1 0, G1 1, G1 2, G1 3, G1 4, G1 5, G1 6, G1 7, G1 8, G1 9, G1 10, G1 11, G1 12, G1 13, G1 14, G1 15, G1 16, G1 17, G1 18, G1 19, L1 0, L1 1, L1 2, L1 3, L1 4, L1 5, L1 6, L1 7, L1 8, L1 9, L1 10, L1 11, L1 12, L1 13, L1 14, L1 15, L1 16, L1 17, L1 18, L1 19, M1 0, M1 1, M1 2, M1 3, M1 4, M1 5, M1 6, M1 7, M1 8, M1 9, M1 10, M1 11, M1 12, M1 13, M1 14, M1 15, M1 16, M1 17, M1 18, M1 19, N1 0, N1 1, N1 2, N1 3, N1 4, N1 5, N1 6, N1 7, N1 8, N1 9, N1 10, N1 11, N1 12, N1 13, N1 14, N1 15, N1 16, N1 17, N1 18, N1 19, O1 0, O1 1, O1 2, O1 3, O1 4, O1 5, O1 6, O1 7, O1 8, O1 9, O1 10, O1 11, O1 12, O1 13, O1 14, O1 15, O1 16, O1 17, O1 18, O1 19, P1 0, P1 1, P1 2, P1 3, P1 4, P1 5, P1 6, P1 7, P1 8, P1 9, P1 10, P1 11, P1 12, P1 13, P1 14, P1 15, P1 16, P1 17, P1 18, P1 19, Q1 0, Q1 1, Q1 2, Q1 3, Q1 4, Q1 5], defers := [] } → Kept b w Wl1 → Fl b s1.2 Wl1 → Arr w.heap.size (row 43 g) Wl1 → Arr (w.heap.size + 1 + 1) (row 43 (fun _ => 0)) Wl1 → Arr w5.heap.size [.int .i64 r5.1.1, .int .i64 r5.1.2.1, .int .i64 r5.1.2.2.1, .int .i64 r5.1.2.2.2] Wl1 → Arr Wl4.heap.size (row 6 r8.1) Wl1 → Arr w9.heap.size (row 78 r9.1) Wl1 → Arr w10.heap.size (row 43 s1.1) Wl1 → G_) → G_) := ⟨_, rfl⟩
    refine rounds_up J1 6 ?_ ?_ ?_
    ·refine give_act (fun a_ ea_ => ?_)
     rw [hJ1.out]
     intro G_ hG_
     exact hG_ ((fun _ => 0), r9.2) (zS a_ 0) (zS a_ 20) (zS a_ 40) (zS a_ 60) (zS a_ 80) (zS a_ 100) (zS a_ 120) (zS a_ 140) (zS a_ 160) (zS a_ 180) (zS a_ 200) rfl (by subst ea_; rfl) K11 BF_11 B0_11 B2_11 B5_11 B6_11 B7_11 B8_11
    ·intro i a Wl1 hi hI R hR
     rw [hJ1.out] at hI
     refine hI _ ?_
     clear hI
     intro s1 A1 C1 D1 F1 G1 L1 M1 N1 O1 P1 Q1 El1 ea Kl1 BF_l1 B0_l1 B2_l1 B5_l1 B6_l1 B7_l1 B8_l1
     subst ea
     have zl1_BF := BF_l1.lies
     have zl1_B0 := B0_l1.lies
     have zl1_B2 := B2_l1.lies
     have zl1_B5 := B5_l1.lies
     have zl1_B6 := B6_l1.lies
     have zl1_B7 := B7_l1.lies
     have zl1_B8 := B8_l1.lies
     go_wp2_with fail
     obtain ⟨J2, hJ2⟩ : ∃ J : Nat → Act → World → Prop, Hid (J = fun j a Wl2 => ∀ G_ : Prop, (∀ (s2 : (Nat → Int) × Bool) (A2 C2 D2 F2 G2 L2 M2 N2 O2 P2 Q2 : Nat → Value), Hid (fMoveinS_l2 r9 i (s1.1, s1.2) j = s2) → a = { tmps := #[.pointer (some ⟨b, 0, none⟩), A2 1, A2 2, .int .i64 ms, A2 4, .pointer (some ⟨w.heap.size, 0, none⟩), A2 6, A2 7, .pointer (some ⟨w.heap.size + 1 + 1, 0, none⟩), A2 9, A2 10, A2 11, A2 12, A2 13, .pointer (some ⟨w5.heap.size, 0, none⟩), A2 15, A2 16, .pointer (some ⟨Wl4.heap.size, 0, none⟩), A2 18, .pointer (some ⟨w9.heap.size, 0, none⟩), .pointer (some ⟨w10.heap.size, 0, none⟩), .int .i64 (i : Int), .int .i64 (j : Int), C2 3, C2 4, C2 5, C2 6, C2 7, C2 8, C2 9, C2 10, C2 11, C2 12, C2 13, C2 14, C2 15, C2 16, C2 17, C2 18, C2 19, D2 0, D2 1, D2 2, D2 3, D2 4, D2 5, D2 6, D2 7, D2 8, D2 9, D2 10, D2 11, D2 12, D2 13, D2 14, D2 15, D2 16, D2 17, D2 18, D2 19, F2 0, F2 1, F2 2, F2 3, F2 4, F2 5, F2 6, F2 7, F2 8, F2 9, F2 10, F2 11, F2 12, F2 13, F2 14, F2 15, F2 16, F2 17, F2 18, F2 19, G2 0, G2 1, G2 2, G2 3, G2 4, G2 5, G2 6, G2 7, G2 8, G2 9, G2 10, G2 11, G2 12, G2 13, G2 14, G2 15, G2 16, G2 17, G2 18, G2 19, L2 0, L2 1, L2 2, L2 3, L2 4, L2 5, L2 6, L2 7, L2 8, L2 9, L2 10, L2 11, L2 12, L2 13, L2 14, L2 15, L2 16, L2 17, L2 18, L2 19, M2 0, M2 1, M2 2, M2 3, M2 4, M2 5, M2 6, M2 7, M2 8, M2 9, M2 10, M2 11, M2 12, M2 13, M2 14, M2 15, M2 16, M2 17, M2 18, M2 19, N2 0, N2 1, N2 2, N2 3, N2 4, N2 5, N2 6, N2 7, N2 8, N2 9, N2 10, N2 11, N2 12, N2 13, N2 14, N2 15, N2 16, N2 17, N2 18, N2 19, O2 0, O2 1, O2 2, O2 3, O2 4, O2 5, O2 6, O2 7, O2 8, O2 9, O2 10, O2 11, O2 12, O2 13, O2 14, O2 15, O2 16, O2 17, O2 18, O2 19, P2 0, P2 1, P2 2, P2 3, P2 4, P2 5, P2 6, P2 7, P2 8, P2 9, P2 10, P2 11, P2 12, P2 13, P2 14, P2 15, P2 16, P2 17, P2 18, P2 19, Q2 0, Q2 1, Q2 2, Q2 3, Q2 4, Q2 5], defers := [] } → Kept b w Wl2 → Fl b s2.2 Wl2 → Arr w.heap.size (row 43 g) Wl2 → Arr (w.heap.size + 1 + 1) (row 43 (fun _ => 0)) Wl2 → Arr w5.heap.size [.int .i64 r5.1.1, .int .i64 r5.1.2.1, .int .i64 r5.1.2.2.1, .int .i64 r5.1.2.2.2] Wl2 → Arr Wl4.heap.size (row 6 r8.1) Wl2 → Arr w9.heap.size (row 78 r9.1) Wl2 → Arr w10.heap.size (row 43 s2.1) Wl2 → G_) → G_) := ⟨_, rfl⟩
     refine rounds_up J2 6 ?_ ?_ ?_
     ·refine give_act (fun a_ ea_ => ?_)
      rw [hJ2.out]
      intro G_ hG_
      exact hG_ (s1.1, s1.2) (zS a_ 0) (zS a_ 20) (zS a_ 40) (zS a_ 60) (zS a_ 80) (zS a_ 100) (zS a_ 120) (zS a_ 140) (zS a_ 160) (zS a_ 180) (zS a_ 200) rfl (by subst ea_; rfl) Kl1 BF_l1 B0_l1 B2_l1 B5_l1 B6_l1 B7_l1 B8_l1
     ·intro j a Wl2 hj hI R hR
      rw [hJ2.out] at hI
      refine hI _ ?_
      clear hI
      intro s2 A2 C2 D2 F2 G2 L2 M2 N2 O2 P2 Q2 El2 ea Kl2 BF_l2 B0_l2 B2_l2 B5_l2 B6_l2 B7_l2 B8_l2
      subst ea
      have zl2_BF := BF_l2.lies
      have zl2_B0 := B0_l2.lies
      have zl2_B2 := B2_l2.lies
      have zl2_B5 := B5_l2.lies
      have zl2_B6 := B6_l2.lies
      have zl2_B7 := B7_l2.lies
      have zl2_B8 := B8_l2.lies
      go_wp2_with fail
      refine wp_region_held_drew (S := fun w' => Arr w9.heap.size (row 78 r9.1) w') (by kernel_rfl) B7_l2.drew (fun hHeld => ?_)
      refine zT (i := 0) (v := ?v173) rfl (by kernel_rfl) (fun _ _ _ h => h) (by rfl) ?y173 hHeld ?t173
      case y173 => (intro wx hSw; go_simp <;> with_reducible rfl)
      simp only [Act.put, zA, zB, zC]
      refine zT (i := 1) (v := ?v174) rfl (by kernel_rfl) (fun _ _ _ h => h) (by rfl) ?y174 hHeld ?t174
      case y174 => (intro wx hSw; go_simp <;> with_reducible rfl)
      simp only [Act.put, zA, zB, zC]
      refine zT (i := 2) (v := ?v175) rfl (by kernel_rfl) (fun _ _ _ h => h) (by rfl) ?y175 hHeld ?t175
      case y175 => (intro wx hSw; go_simp <;> with_reducible rfl)
      simp only [Act.put, zA, zB, zC]
      refine take_at (i := 3) rfl (by kernel_rfl) (by kernel_rfl) (by kernel_rfl) (fun _ _ _ h => h) (row_yield (by rfl) rfl rfl (fun _ hSw => hSw) (by kernel_rfl) (by rw [row_len]; kernel_rfl)) hHeld ?_
      simp only [Act.put, zA, zB, zC]
      refine zT (i := 4) (v := ?v176) rfl (by kernel_rfl) (fun _ _ _ h => h) (by rfl) ?y176 hHeld ?t176
      case y176 => (intro wx hSw; go_simp <;> with_reducible rfl)
      simp only [Act.put, zA, zB, zC]
      refine take_at (i := 5) rfl (by kernel_rfl) (by kernel_rfl) (by kernel_rfl) (fun _ _ _ h => h) (row_yield (by rfl) rfl rfl (fun _ hSw => hSw) (by kernel_rfl) (by rw [row_len]; kernel_rfl)) hHeld ?_
      simp only [Act.put, zA, zB, zC]
      refine zT (i := 6) (v := ?v177) rfl (by kernel_rfl) (fun _ _ _ h => h) (by rfl) ?y177 hHeld ?t177
      case y177 => (intro wx hSw; go_simp <;> with_reducible rfl)
      simp only [Act.put, zA, zB, zC]
      refine zT (i := 8) (v := ?v178) rfl (by kernel_rfl) (fun _ _ _ h => h) (by rfl) ?y178 hHeld ?t178
      case y178 => (intro wx hSw; go_simp <;> with_reducible rfl)
      simp only [Act.put, zA, zB, zC]
      refine zT (i := 9) (v := ?v179) rfl (by kernel_rfl) (fun _ _ _ h => h) (by rfl) ?y179 hHeld ?t179
      case y179 => (intro wx hSw; have hi0 : (i : Int) < 6 := (by omega); go_simp <;> with_reducible rfl)
      simp only [Act.put, zA, zB, zC]
      refine call_at (i := 7) (by kernel_rfl) rfl (fun K hK => ?_)
      go_simp
      refine (fproducts_any b s2.2 r9.1 i r9.1 j _ BF_l2.drew (by omega) (by omega)).mono ?_
      rintro e w12 ⟨rfl, f12, k12⟩
      generalize e12 : fproductsS s2.2 r9.1 i r9.1 j = r12 at f12 ⊢
      have E12 : Hid _ := e12
      clear e12
      have K12 : Kept b w w12 := Kept.trans Kl2.drew k12
      have B0_12 := B0_l2.drew.kept k12 (zG y1_BF)
      have B2_12 := B2_l2.drew.kept k12 (zG y3_BF)
      have B5_12 := B5_l2.drew.kept k12 (zG y18_BF)
      have B6_12 := B6_l2.drew.kept k12 (zG y31_BF)
      have B7_12 := B7_l2.drew.kept k12 (zG y32_BF)
      have B8_12 := B8_l2.drew.kept k12 (zG y33_BF)
      have z12 := B8_12.lies
      clear hHeld
      refine hK.out _ _ B7_12 (fun hHeld => ?_)
      clear hK K BF_l2 B0_l2 B2_l2 B5_l2 B6_l2 B7_l2 B8_l2 k12
      refine zT (i := 10) (v := ?v180) rfl (by kernel_rfl) (fun _ _ _ h => h) (by rfl) ?y180 hHeld ?t180
      case y180 => (intro wx hSw; have hi0 : (j : Int) < 6 := (by omega); go_simp <;> with_reducible rfl)
      simp only [Act.put, zA, zB, zC]
      refine call_at (i := 11) (by kernel_rfl) rfl (fun K hK => ?_)
      have c18_B8_0 : w12.cell? ⟨w10.heap.size, 7 + i * 6 + j, none⟩ = some (.int .i64 (s2.1 (7 + i * 6 + j))) := row_c B8_12 (7 + i * 6 + j) (by omega)
      have g18_B8_1 := row_f B8_12 (7 + i * 6 + j) (by omega)
      go_simp
      clear hHeld
      refine hK.out _ _ (B7_12.new w10.heap.size (7 + i * 6 + j) (zL y33_B7) (.int .i64 r12.1)) (fun hHeld => ?_)
      clear hK K c18_B8_0 g18_B8_1
      refine wpAnyH_done (by kernel_rfl) ?_ _
      clear hHeld
      go_wp2_with fail
      have hs2 : Hid (fMoveinS_l2 r9 i (s1.1, s1.2) (j + 1) = ((updF s2.1 (7 + i * 6 + j) r12.1), r12.2)) := by show _ = _; rw [fMoveinS_l2_succ]; unfold fMoveinS_l2s; simp only [El2.out, E12.out]
      refine give_act (fun a_ ea_ => ?_)
      rw [hJ2.out]
      intro G_ hG_
      exact hG_ ((updF s2.1 (7 + i * 6 + j) r12.1), r12.2) (zS a_ 0) (zS a_ 20) (zS a_ 40) (zS a_ 60) (zS a_ 80) (zS a_ 100) (zS a_ 120) (zS a_ 140) (zS a_ 160) (zS a_ 180) (zS a_ 200) hs2 (by subst ea_; rfl) (K12.new _ _ (by omega) _) (f12.new w10.heap.size (7 + i * 6 + j) (zL y33_BF) (.int .i64 r12.1)) (B0_12.new w10.heap.size (7 + i * 6 + j) (zL y33_B0) (.int .i64 r12.1)) (B2_12.new w10.heap.size (7 + i * 6 + j) (zL y33_B2) (.int .i64 r12.1)) (B5_12.new w10.heap.size (7 + i * 6 + j) (zL y33_B5) (.int .i64 r12.1)) (B6_12.new w10.heap.size (7 + i * 6 + j) (zL y33_B6) (.int .i64 r12.1)) (B7_12.new w10.heap.size (7 + i * 6 + j) (zL y33_B7) (.int .i64 r12.1)) (row_put B8_12 (7 + i * 6 + j) (by omega) r12.1)
     ·intro a Wl2 hI R
      rw [hJ2.out] at hI
      refine hI _ ?_
      clear hI hJ2
      intro r13 A2 C2 D2 F2 G2 L2 M2 N2 O2 P2 Q2 E13 ea Kl2 BF_l2 B0_l2 B2_l2 B5_l2 B6_l2 B7_l2 B8_l2
      subst ea
      have zl2_BF := BF_l2.lies
      have zl2_B0 := B0_l2.lies
      have zl2_B2 := B2_l2.lies
      have zl2_B5 := B5_l2.lies
      have zl2_B6 := B6_l2.lies
      have zl2_B7 := B7_l2.lies
      have zl2_B8 := B8_l2.lies
      go_wp2_with fail
      have hs1 : Hid (fMoveinS_l1 r9 ((fun _ => 0), r9.2) (i + 1) = (r13.1, r13.2)) := by show _ = _; rw [fMoveinS_l1_succ]; unfold fMoveinS_l1s; simp only [El1.out, E13.out]
      refine give_act (fun a_ ea_ => ?_)
      rw [hJ1.out]
      intro G_ hG_
      exact hG_ (r13.1, r13.2) (zS a_ 0) (zS a_ 20) (zS a_ 40) (zS a_ 60) (zS a_ 80) (zS a_ 100) (zS a_ 120) (zS a_ 140) (zS a_ 160) (zS a_ 180) (zS a_ 200) hs1 (by subst ea_; rfl) Kl2 BF_l2 B0_l2 B2_l2 B5_l2 B6_l2 B7_l2 B8_l2
    ·intro a Wl1 hI R
     rw [hJ1.out] at hI
     refine hI _ ?_
     clear hI hJ1
     intro r12 A1 C1 D1 F1 G1 L1 M1 N1 O1 P1 Q1 E12 ea Kl1 BF_l1 B0_l1 B2_l1 B5_l1 B6_l1 B7_l1 B8_l1
     subst ea
     have zl1_BF := BF_l1.lies
     have zl1_B0 := B0_l1.lies
     have zl1_B2 := B2_l1.lies
     have zl1_B5 := B5_l1.lies
     have zl1_B6 := B6_l1.lies
     have zl1_B7 := B7_l1.lies
     have zl1_B8 := B8_l1.lies
     go_wp2_with fail
     obtain ⟨J0, hJ0⟩ : ∃ J : Nat → Act → World → Prop, Hid (J = fun i a Wl0 => ∀ G_ : Prop, (∀ (s0 : (Nat → Int) × Bool) (A0 C0 D0 F0 G0 L0 M0 N0 O0 P0 Q0 : Nat → Value), Hid (fMoveinS_l0 ms (r12.1, r12.2) i = s0) → a = { tmps := #[.pointer (some ⟨b, 0, none⟩), A0 1, A0 2, .int .i64 ms, A0 4, .pointer (some ⟨w.heap.size, 0, none⟩), A0 6, A0 7, .pointer (some ⟨w.heap.size + 1 + 1, 0, none⟩), A0 9, A0 10, A0 11, A0 12, A0 13, .pointer (some ⟨w5.heap.size, 0, none⟩), A0 15, A0 16, .pointer (some ⟨Wl4.heap.size, 0, none⟩), A0 18, A0 19, .pointer (some ⟨w10.heap.size, 0, none⟩), C0 1, C0 2, .int .i64 (i : Int), C0 4, C0 5, C0 6, C0 7, C0 8, C0 9, C0 10, C0 11, C0 12, C0 13, C0 14, C0 15, C0 16, C0 17, C0 18, C0 19, D0 0, D0 1, D0 2, D0 3, D0 4, D0 5, D0 6, D0 7, D0 8, D0 9, D0 10, D0 11, D0 12, D0 13, D0 14, D0 15, D0 16, D0 17, D0 18, D0 19, F0 0, F0 1, F0 2, F0 3, F0 4, F0 5, F0 6, F0 7, F0 8, F0 9, F0 10, F0 11, F0 12, F0 13, F0 14, F0 15, F0 16, F0 17, F0 18, F0 19, G0 0, G0 1, G0 2, G0 3, G0 4, G0 5, G0 6, G0 7, G0 8, G0 9, G0 10, G0 11, G0 12, G0 13, G0 14, G0 15, G0 16, G0 17, G0 18, G0 19, L0 0, L0 1, L0 2, L0 3, L0 4, L0 5, L0 6, L0 7, L0 8, L0 9, L0 10, L0 11, L0 12, L0 13, L0 14, L0 15, L0 16, L0 17, L0 18, L0 19, M0 0, M0 1, M0 2, M0 3, M0 4, M0 5, M0 6, M0 7, M0 8, M0 9, M0 10, M0 11, M0 12, M0 13, M0 14, M0 15, M0 16, M0 17, M0 18, M0 19, N0 0, N0 1, N0 2, N0 3, N0 4, N0 5, N0 6, N0 7, N0 8, N0 9, N0 10, N0 11, N0 12, N0 13, N0 14, N0 15, N0 16, N0 17, N0 18, N0 19, O0 0, O0 1, O0 2, O0 3, O0 4, O0 5, O0 6, O0 7, O0 8, O0 9, O0 10, O0 11, O0 12, O0 13, O0 14, O0 15, O0 16, O0 17, O0 18, O0 19, P0 0, P0 1, P0 2, P0 3, P0 4, P0 5, P0 6, P0 7, P0 8, P0 9, P0 10, P0 11, P0 12, P0 13, P0 14, P0 15, P0 16, P0 17, P0 18, P0 19, Q0 0, Q0 1, Q0 2, Q0 3, Q0 4, Q0 5], defers := [] } → Kept b w Wl0 → Fl b s0.2 Wl0 → Arr w.heap.size (row 43 g) Wl0 → Arr (w.heap.size + 1 + 1) (row 43 (fun _ => 0)) Wl0 → Arr w5.heap.size [.int .i64 r5.1.1, .int .i64 r5.1.2.1, .int .i64 r5.1.2.2.1, .int .i64 r5.1.2.2.2] Wl0 → Arr Wl4.heap.size (row 6 r8.1) Wl0 → Arr w10.heap.size (row 43 s0.1) Wl0 → G_) → G_) := ⟨_, rfl⟩
     refine rounds_up J0 3 ?_ ?_ ?_
     ·refine give_act (fun a_ ea_ => ?_)
      rw [hJ0.out]
      intro G_ hG_
      exact hG_ (r12.1, r12.2) (zS a_ 0) (zS a_ 20) (zS a_ 40) (zS a_ 60) (zS a_ 80) (zS a_ 100) (zS a_ 120) (zS a_ 140) (zS a_ 160) (zS a_ 180) (zS a_ 200) rfl (by subst ea_; rfl) Kl1 BF_l1 B0_l1 B2_l1 B5_l1 B6_l1 B8_l1
     ·intro i a Wl0 hi hI R hR
      rw [hJ0.out] at hI
      refine hI _ ?_
      clear hI
      intro s0 A0 C0 D0 F0 G0 L0 M0 N0 O0 P0 Q0 El0 ea Kl0 BF_l0 B0_l0 B2_l0 B5_l0 B6_l0 B8_l0
      subst ea
      have zl0_BF := BF_l0.lies
      have zl0_B0 := B0_l0.lies
      have zl0_B2 := B2_l0.lies
      have zl0_B5 := B5_l0.lies
      have zl0_B6 := B6_l0.lies
      have zl0_B8 := B8_l0.lies
      go_wp2_with fail
      refine get_cont (fun KK11 hKK11 => ?_)
      have cont11 : ∀ (W11 : World) (t11_4 t11_7 t11_24 t11_25 t11_26 t11_27 t11_28 t11_29 t11_30 t11_31 t11_32 t11_33 t11_34 t11_35 t11_36 t11_37 t11_38 t11_39 t11_40 t11_41 t11_42 t11_43 t11_44 t11_45 t11_46 t11_47 t11_48 t11_49 t11_50 t11_51 t11_52 t11_53 t11_54 t11_55 t11_56 t11_57 t11_58 t11_59 t11_60 t11_61 t11_62 t11_63 t11_64 t11_65 t11_66 t11_67 t11_68 t11_69 t11_70 t11_71 t11_72 t11_73 t11_74 t11_75 t11_76 t11_77 t11_78 t11_79 t11_80 t11_81 t11_82 t11_83 t11_84 t11_85 t11_86 t11_87 t11_88 t11_89 t11_90 t11_91 t11_92 t11_93 t11_94 t11_95 t11_96 t11_97 t11_98 t11_99 t11_100 t11_101 t11_102 t11_103 t11_104 t11_105 t11_106 t11_107 t11_108 t11_109 t11_110 t11_111 t11_112 t11_113 t11_114 t11_115 t11_116 t11_117 t11_118 t11_119 t11_120 t11_121 t11_122 t11_123 t11_124 t11_125 t11_126 t11_127 t11_128 t11_129 t11_130 t11_131 t11_132 t11_133 t11_134 t11_135 t11_136 t11_137 t11_138 t11_139 t11_140 t11_141 t11_142 t11_143 t11_144 t11_145 t11_146 t11_147 t11_148 t11_149 t11_150 t11_151 t11_152 t11_153 t11_154 t11_155 t11_156 t11_157 t11_158 t11_159 t11_160 t11_161 t11_162 t11_163 t11_164 t11_165 t11_166 t11_167 t11_168 t11_169 t11_170 t11_171 t11_172 t11_173 t11_174 t11_175 t11_176 t11_177 t11_178 t11_179 t11_180 t11_181 t11_182 t11_183 t11_184 t11_185 t11_186 t11_187 t11_188 t11_189 t11_190 t11_191 t11_192 t11_193 t11_194 t11_195 t11_196 t11_197 t11_198 t11_199 t11_200 t11_201 t11_202 t11_203 t11_204 t11_205 : Value) (r13 : _) (r14 : _) , Hid (partS s0.2 65536 ms 1000 = r13) → Hid (addS r13.2 (s0.1 (7 + i * 6 + i)) r13.1 = r14) → Kept b w W11 → Fl b r14.2 W11 → Arr w.heap.size (row 43 g) W11 → Arr (w.heap.size + 1 + 1) (row 43 (fun _ => 0)) W11 → Arr w5.heap.size [.int .i64 r5.1.1, .int .i64 r5.1.2.1, .int .i64 r5.1.2.2.1, .int .i64 r5.1.2.2.2] W11 → Arr Wl4.heap.size (row 6 r8.1) W11 → Arr w10.heap.size (row 43 (updF s0.1 (7 + i * 6 + i) r14.1)) W11 → KK11 { tmps := #[.pointer (some ⟨b, 0, none⟩), A0 1, A0 2, .int .i64 ms, t11_4, .pointer (some ⟨w.heap.size, 0, none⟩), A0 6, t11_7, .pointer (some ⟨w.heap.size + 1 + 1, 0, none⟩), A0 9, A0 10, A0 11, A0 12, A0 13, .pointer (some ⟨w5.heap.size, 0, none⟩), A0 15, A0 16, .pointer (some ⟨Wl4.heap.size, 0, none⟩), A0 18, A0 19, .pointer (some ⟨w10.heap.size, 0, none⟩), C0 1, C0 2, .int .i64 (i : Int), t11_24, t11_25, t11_26, t11_27, t11_28, t11_29, t11_30, t11_31, t11_32, t11_33, t11_34, t11_35, t11_36, t11_37, t11_38, t11_39, t11_40, t11_41, t11_42, t11_43, t11_44, t11_45, t11_46, t11_47, t11_48, t11_49, t11_50, t11_51, t11_52, t11_53, t11_54, t11_55, t11_56, t11_57, t11_58, t11_59, t11_60, t11_61, t11_62, t11_63, t11_64, t11_65, t11_66, t11_67, t11_68, t11_69, t11_70, t11_71, t11_72, t11_73, t11_74, t11_75, t11_76, t11_77, t11_78, t11_79, t11_80, t11_81, t11_82, t11_83, t11_84, t11_85, t11_86, t11_87, t11_88, t11_89, t11_90, t11_91, t11_92, t11_93, t11_94, t11_95, t11_96, t11_97, t11_98, t11_99, t11_100, t11_101, t11_102, t11_103, t11_104, t11_105, t11_106, t11_107, t11_108, t11_109, t11_110, t11_111, t11_112, t11_113, t11_114, t11_115, t11_116, t11_117, t11_118, t11_119, t11_120, t11_121, t11_122, t11_123, t11_124, t11_125, t11_126, t11_127, t11_128, t11_129, t11_130, t11_131, t11_132, t11_133, t11_134, t11_135, t11_136, t11_137, t11_138, t11_139, t11_140, t11_141, t11_142, t11_143, t11_144, t11_145, t11_146, t11_147, t11_148, t11_149, t11_150, t11_151, t11_152, t11_153, t11_154, t11_155, t11_156, t11_157, t11_158, t11_159, t11_160, t11_161, t11_162, t11_163, t11_164, t11_165, t11_166, t11_167, t11_168, t11_169, t11_170, t11_171, t11_172, t11_173, t11_174, t11_175, t11_176, t11_177, t11_178, t11_179, t11_180, t11_181, t11_182, t11_183, t11_184, t11_185, t11_186, t11_187, t11_188, t11_189, t11_190, t11_191, t11_192, t11_193, t11_194, t11_195, t11_196, t11_197, t11_198, t11_199, t11_200, t11_201, t11_202, t11_203, t11_204, t11_205], defers := [] } W11 := by
       intro W11 t11_4 t11_7 t11_24 t11_25 t11_26 t11_27 t11_28 t11_29 t11_30 t11_31 t11_32 t11_33 t11_34 t11_35 t11_36 t11_37 t11_38 t11_39 t11_40 t11_41 t11_42 t11_43 t11_44 t11_45 t11_46 t11_47 t11_48 t11_49 t11_50 t11_51 t11_52 t11_53 t11_54 t11_55 t11_56 t11_57 t11_58 t11_59 t11_60 t11_61 t11_62 t11_63 t11_64 t11_65 t11_66 t11_67 t11_68 t11_69 t11_70 t11_71 t11_72 t11_73 t11_74 t11_75 t11_76 t11_77 t11_78 t11_79 t11_80 t11_81 t11_82 t11_83 t11_84 t11_85 t11_86 t11_87 t11_88 t11_89 t11_90 t11_91 t11_92 t11_93 t11_94 t11_95 t11_96 t11_97 t11_98 t11_99 t11_100 t11_101 t11_102 t11_103 t11_104 t11_105 t11_106 t11_107 t11_108 t11_109 t11_110 t11_111 t11_112 t11_113 t11_114 t11_115 t11_116 t11_117 t11_118 t11_119 t11_120 t11_121 t11_122 t11_123 t11_124 t11_125 t11_126 t11_127 t11_128 t11_129 t11_130 t11_131 t11_132 t11_133 t11_134 t11_135 t11_136 t11_137 t11_138 t11_139 t11_140 t11_141 t11_142 t11_143 t11_144 t11_145 t11_146 t11_147 t11_148 t11_149 t11_150 t11_151 t11_152 t11_153 t11_154 t11_155 t11_156 t11_157 t11_158 t11_159 t11_160 t11_161 t11_162 t11_163 t11_164 t11_165 t11_166 t11_167 t11_168 t11_169 t11_170 t11_171 t11_172 t11_173 t11_174 t11_175 t11_176 t11_177 t11_178 t11_179 t11_180 t11_181 t11_182 t11_183 t11_184 t11_185 t11_186 t11_187 t11_188 t11_189 t11_190 t11_191 t11_192 t11_193 t11_194 t11_195 t11_196 t11_197 t11_198 t11_199 t11_200 t11_201 t11_202 t11_203 t11_204 t11_205 r13 r14 E13 E14 KC11 BF_c11 B0_c11 B2_c11 B5_c11 B6_c11 B8_c11
       have zc11_BF := BF_c11.lies
       have zc11_B0 := B0_c11.lies
       have zc11_B2 := B2_c11.lies
       have zc11_B5 := B5_c11.lies
       have zc11_B6 := B6_c11.lies
       have zc11_B8 := B8_c11.lies
       rw [hKK11.out]
       dsimp only [Exit.inBlock, Exit.then]
       first | refine use_cont (by assumption) ?_ | skip
       have i19_0 : (i : Int) < 6 := by omega
       go_wp2_with fail
       clear i19_0
       refine get_cont (fun KK12 hKK12 => ?_)
       have cont12 : ∀ (W12 : World) (t12_4 t12_7 t12_24 t12_25 t12_26 t12_27 t12_28 t12_29 t12_30 t12_31 t12_32 t12_33 t12_34 t12_35 t12_36 t12_37 t12_38 t12_39 t12_40 t12_41 t12_42 t12_43 t12_44 t12_45 t12_46 t12_47 t12_48 t12_49 t12_50 t12_51 t12_52 t12_53 t12_54 t12_55 t12_56 t12_57 t12_58 t12_59 t12_60 t12_61 t12_62 t12_63 t12_64 t12_65 t12_66 t12_67 t12_68 t12_69 t12_70 t12_71 t12_72 t12_73 t12_74 t12_75 t12_76 t12_77 t12_78 t12_79 t12_80 t12_81 t12_82 t12_83 t12_84 t12_85 t12_86 t12_87 t12_88 t12_89 t12_90 t12_91 t12_92 t12_93 t12_94 t12_95 t12_96 t12_97 t12_98 t12_99 t12_100 t12_101 t12_102 t12_103 t12_104 t12_105 t12_106 t12_107 t12_108 t12_109 t12_110 t12_111 t12_112 t12_113 t12_114 t12_115 t12_116 t12_117 t12_118 t12_119 t12_120 t12_121 t12_122 t12_123 t12_124 t12_125 t12_126 t12_127 t12_128 t12_129 t12_130 t12_131 t12_132 t12_133 t12_134 t12_135 t12_136 t12_137 t12_138 t12_139 t12_140 t12_141 t12_142 t12_143 t12_144 t12_145 t12_146 t12_147 t12_148 t12_149 t12_150 t12_151 t12_152 t12_153 t12_154 t12_155 t12_156 t12_157 t12_158 t12_159 t12_160 t12_161 t12_162 t12_163 t12_164 t12_165 t12_166 t12_167 t12_168 t12_169 t12_170 t12_171 t12_172 t12_173 t12_174 t12_175 t12_176 t12_177 t12_178 t12_179 t12_180 t12_181 t12_182 t12_183 t12_184 t12_185 t12_186 t12_187 t12_188 t12_189 t12_190 t12_191 t12_192 t12_193 t12_194 t12_195 t12_196 t12_197 t12_198 t12_199 t12_200 t12_201 t12_202 t12_203 t12_204 t12_205 : Value) (r15 : _) (r16 : _) , Hid (partS r14.2 1024 ms 1000 = r15) → Hid (addS r15.2 ((updF s0.1 (7 + i * 6 + i) r14.1) (7 + (i + 3) * 6 + (i + 3))) r15.1 = r16) → Kept b w W12 → Fl b r16.2 W12 → Arr w.heap.size (row 43 g) W12 → Arr (w.heap.size + 1 + 1) (row 43 (fun _ => 0)) W12 → Arr w5.heap.size [.int .i64 r5.1.1, .int .i64 r5.1.2.1, .int .i64 r5.1.2.2.1, .int .i64 r5.1.2.2.2] W12 → Arr Wl4.heap.size (row 6 r8.1) W12 → Arr w10.heap.size (row 43 (updF (updF s0.1 (7 + i * 6 + i) r14.1) (7 + (i + 3) * 6 + (i + 3)) r16.1)) W12 → KK12 { tmps := #[.pointer (some ⟨b, 0, none⟩), A0 1, A0 2, .int .i64 ms, t12_4, .pointer (some ⟨w.heap.size, 0, none⟩), A0 6, t12_7, .pointer (some ⟨w.heap.size + 1 + 1, 0, none⟩), A0 9, A0 10, A0 11, A0 12, A0 13, .pointer (some ⟨w5.heap.size, 0, none⟩), A0 15, A0 16, .pointer (some ⟨Wl4.heap.size, 0, none⟩), A0 18, A0 19, .pointer (some ⟨w10.heap.size, 0, none⟩), C0 1, C0 2, .int .i64 (i : Int), t12_24, t12_25, t12_26, t12_27, t12_28, t12_29, t12_30, t12_31, t12_32, t12_33, t12_34, t12_35, t12_36, t12_37, t12_38, t12_39, t12_40, t12_41, t12_42, t12_43, t12_44, t12_45, t12_46, t12_47, t12_48, t12_49, t12_50, t12_51, t12_52, t12_53, t12_54, t12_55, t12_56, t12_57, t12_58, t12_59, t12_60, t12_61, t12_62, t12_63, t12_64, t12_65, t12_66, t12_67, t12_68, t12_69, t12_70, t12_71, t12_72, t12_73, t12_74, t12_75, t12_76, t12_77, t12_78, t12_79, t12_80, t12_81, t12_82, t12_83, t12_84, t12_85, t12_86, t12_87, t12_88, t12_89, t12_90, t12_91, t12_92, t12_93, t12_94, t12_95, t12_96, t12_97, t12_98, t12_99, t12_100, t12_101, t12_102, t12_103, t12_104, t12_105, t12_106, t12_107, t12_108, t12_109, t12_110, t12_111, t12_112, t12_113, t12_114, t12_115, t12_116, t12_117, t12_118, t12_119, t12_120, t12_121, t12_122, t12_123, t12_124, t12_125, t12_126, t12_127, t12_128, t12_129, t12_130, t12_131, t12_132, t12_133, t12_134, t12_135, t12_136, t12_137, t12_138, t12_139, t12_140, t12_141, t12_142, t12_143, t12_144, t12_145, t12_146, t12_147, t12_148, t12_149, t12_150, t12_151, t12_152, t12_153, t12_154, t12_155, t12_156, t12_157, t12_158, t12_159, t12_160, t12_161, t12_162, t12_163, t12_164, t12_165, t12_166, t12_167, t12_168, t12_169, t12_170, t12_171, t12_172, t12_173, t12_174, t12_175, t12_176, t12_177, t12_178, t12_179, t12_180, t12_181, t12_182, t12_183, t12_184, t12_185, t12_186, t12_187, t12_188, t12_189, t12_190, t12_191, t12_192, t12_193, t12_194, t12_195, t12_196, t12_197, t12_198, t12_199, t12_200, t12_201, t12_202, t12_203, t12_204, t12_205], defers := [] } W12 := by
        intro W12 t12_4 t12_7 t12_24 t12_25 t12_26 t12_27 t12_28 t12_29 t12_30 t12_31 t12_32 t12_33 t12_34 t12_35 t12_36 t12_37 t12_38 t12_39 t12_40 t12_41 t12_42 t12_43 t12_44 t12_45 t12_46 t12_47 t12_48 t12_49 t12_50 t12_51 t12_52 t12_53 t12_54 t12_55 t12_56 t12_57 t12_58 t12_59 t12_60 t12_61 t12_62 t12_63 t12_64 t12_65 t12_66 t12_67 t12_68 t12_69 t12_70 t12_71 t12_72 t12_73 t12_74 t12_75 t12_76 t12_77 t12_78 t12_79 t12_80 t12_81 t12_82 t12_83 t12_84 t12_85 t12_86 t12_87 t12_88 t12_89 t12_90 t12_91 t12_92 t12_93 t12_94 t12_95 t12_96 t12_97 t12_98 t12_99 t12_100 t12_101 t12_102 t12_103 t12_104 t12_105 t12_106 t12_107 t12_108 t12_109 t12_110 t12_111 t12_112 t12_113 t12_114 t12_115 t12_116 t12_117 t12_118 t12_119 t12_120 t12_121 t12_122 t12_123 t12_124 t12_125 t12_126 t12_127 t12_128 t12_129 t12_130 t12_131 t12_132 t12_133 t12_134 t12_135 t12_136 t12_137 t12_138 t12_139 t12_140 t12_141 t12_142 t12_143 t12_144 t12_145 t12_146 t12_147 t12_148 t12_149 t12_150 t12_151 t12_152 t12_153 t12_154 t12_155 t12_156 t12_157 t12_158 t12_159 t12_160 t12_161 t12_162 t12_163 t12_164 t12_165 t12_166 t12_167 t12_168 t12_169 t12_170 t12_171 t12_172 t12_173 t12_174 t12_175 t12_176 t12_177 t12_178 t12_179 t12_180 t12_181 t12_182 t12_183 t12_184 t12_185 t12_186 t12_187 t12_188 t12_189 t12_190 t12_191 t12_192 t12_193 t12_194 t12_195 t12_196 t12_197 t12_198 t12_199 t12_200 t12_201 t12_202 t12_203 t12_204 t12_205 r15 r16 E15 E16 KC12 BF_c12 B0_c12 B2_c12 B5_c12 B6_c12 B8_c12
        have zc12_BF := BF_c12.lies
        have zc12_B0 := B0_c12.lies
        have zc12_B2 := B2_c12.lies
        have zc12_B5 := B5_c12.lies
        have zc12_B6 := B6_c12.lies
        have zc12_B8 := B8_c12.lies
        rw [hKK12.out]
        dsimp only [Exit.inBlock, Exit.then]
        first | refine use_cont (by assumption) ?_ | skip
        have i20_0 : ((i : Int) + 3) < 6 := by omega
        go_wp2_with fail
        clear i20_0
        have hs0 : Hid (fMoveinS_l0 ms (r12.1, r12.2) (i + 1) = ((updF (updF s0.1 (7 + i * 6 + i) r14.1) (7 + (i + 3) * 6 + (i + 3)) r16.1), r16.2)) := by show _ = _; rw [fMoveinS_l0_succ]; unfold fMoveinS_l0s; simp only [El0.out, E13.out, E14.out, E15.out, E16.out]
        refine give_act (fun a_ ea_ => ?_)
        rw [hJ0.out]
        intro G_ hG_
        exact hG_ ((updF (updF s0.1 (7 + i * 6 + i) r14.1) (7 + (i + 3) * 6 + (i + 3)) r16.1), r16.2) (zS a_ 0) (zS a_ 20) (zS a_ 40) (zS a_ 60) (zS a_ 80) (zS a_ 100) (zS a_ 120) (zS a_ 140) (zS a_ 160) (zS a_ 180) (zS a_ 200) hs0 (by subst ea_; rfl) KC12 BF_c12 B0_c12 B2_c12 B5_c12 B6_c12 B8_c12
       refine wp_region_held_drew (S := fun w' => NearR w10.heap.size 43 (updF s0.1 (7 + i * 6 + i) r14.1) (7 + (i + 3) * 6 + (i + 3)) w') (by kernel_rfl) (NearR.same B8_c11.drew) (fun hHeld => ?_)
       refine zT (i := 0) (v := ?v245) rfl (by kernel_rfl) (fun _ _ _ h => h) (by rfl) ?y245 hHeld ?t245
       case y245 => (intro wx hSw; go_simp <;> with_reducible rfl)
       simp only [Act.put, zA, zB, zC]
       refine zT (i := 1) (v := ?v246) rfl (by kernel_rfl) (fun _ _ _ h => h) (by rfl) ?y246 hHeld ?t246
       case y246 => (intro wx hSw; go_simp <;> with_reducible rfl)
       simp only [Act.put, zA, zB, zC]
       rw [IntWalk.i64_in ((i : Int) + 3) (by omega)]
       refine zT (i := 2) (v := ?v247) rfl (by kernel_rfl) (fun _ _ _ h => h) (by rfl) ?y247 hHeld ?t247
       case y247 => (intro wx hSw; go_simp <;> with_reducible rfl)
       simp only [Act.put, zA, zB, zC]
       refine zT (i := 3) (v := ?v248) rfl (by kernel_rfl) (fun _ _ _ h => h) (by rfl) ?y248 hHeld ?t248
       case y248 => (intro wx hSw; go_simp <;> with_reducible rfl)
       simp only [Act.put, zA, zB, zC]
       rw [IntWalk.i64_in ((i : Int) + 3) (by omega)]
       refine zT (i := 4) (v := ?v249) rfl (by kernel_rfl) (fun _ _ _ h => h) (by rfl) ?y249 hHeld ?t249
       case y249 => (intro wx hSw; go_simp <;> with_reducible rfl)
       simp only [Act.put, zA, zB, zC]
       refine zT (i := 5) (v := ?v250) rfl (by kernel_rfl) (fun _ _ _ h => h) (by rfl) ?y250 hHeld ?t250
       case y250 => (intro wx hSw; go_simp <;> with_reducible rfl)
       simp only [Act.put, zA, zB, zC]
       refine zT (i := 6) (v := ?v251) rfl (by kernel_rfl) (fun _ _ _ h => h) (by rfl) ?y251 hHeld ?t251
       case y251 => (intro wx hSw; go_simp <;> with_reducible rfl)
       simp only [Act.put, zA, zB, zC]
       rw [IntWalk.i64_in ((i : Int) + 3) (by omega)]
       refine zT (i := 7) (v := ?v252) rfl (by kernel_rfl) (fun _ _ _ h => h) (by rfl) ?y252 hHeld ?t252
       case y252 => (intro wx hSw; go_simp <;> with_reducible rfl)
       simp only [Act.put, zA, zB, zC]
       refine zT (i := 8) (v := ?v253) rfl (by kernel_rfl) (fun _ _ _ h => h) (by rfl) ?y253 hHeld ?t253
       case y253 => (intro wx hSw; go_simp <;> with_reducible rfl)
       simp only [Act.put, zA, zB, zC]
       rw [IntWalk.i64_in ((i : Int) + 3) (by omega)]
       refine zT (i := 9) (v := ?v254) rfl (by kernel_rfl) (fun _ _ _ h => h) (by rfl) ?y254 hHeld ?t254
       case y254 => (intro wx hSw; go_simp <;> with_reducible rfl)
       simp only [Act.put, zA, zB, zC]
       refine zT (i := 10) (v := ?v255) rfl (by kernel_rfl) (fun _ _ _ h => h) (by rfl) ?y255 hHeld ?t255
       case y255 => (intro wx hSw; have hi0 : ((i : Int) + 3) < 6 := (by omega); have hj0 : 0 ≤ ((i : Int) + 3) := (by omega); have hk0 : (((i : Int) + 3)).toNat = (i + 3) := (by omega); go_simp <;> with_reducible rfl)
       simp only [Act.put, zA, zB, zC]
       refine zT (i := 11) (v := ?v256) rfl (by kernel_rfl) (fun _ _ _ h => h) (by rfl) ?y256 hHeld ?t256
       case y256 => (intro wx hSw; have hi0 : ((i : Int) + 3) < 6 := (by omega); have hj0 : 0 ≤ ((i : Int) + 3) := (by omega); have hk0 : (((i : Int) + 3)).toNat = (i + 3) := (by omega); go_simp <;> with_reducible rfl)
       simp only [Act.put, zA, zB, zC]
       refine zT (i := 13) (v := ?v257) rfl (by kernel_rfl) (fun _ _ _ h => h) (by rfl) ?y257 hHeld ?t257
       case y257 => (intro wx hSw; go_simp <;> with_reducible rfl)
       simp only [Act.put, zA, zB, zC]
       refine zT (i := 14) (v := ?v258) rfl (by kernel_rfl) (fun _ _ _ h => h) (by rfl) ?y258 hHeld ?t258
       case y258 => (intro wx hSw; go_simp <;> with_reducible rfl)
       simp only [Act.put, zA, zB, zC]
       refine zT (i := 17) (v := ?v259) rfl (by kernel_rfl) (fun _ _ _ h => h) (by rfl) ?y259 hHeld ?t259
       case y259 => (intro wx hSw; go_simp <;> with_reducible rfl)
       simp only [Act.put, zA, zB, zC]
       refine zT (i := 18) (v := ?v260) rfl (by kernel_rfl) (fun _ _ _ h => h) (by rfl) ?y260 hHeld ?t260
       case y260 => (intro wx hSw; have hi0 : ((i : Int) + 3) < 6 := (by omega); have hj0 : 0 ≤ ((i : Int) + 3) := (by omega); have hk0 : (((i : Int) + 3)).toNat = (i + 3) := (by omega); go_simp <;> with_reducible rfl)
       simp only [Act.put, zA, zB, zC]
       refine call_at2 (i0 := 12) (i1 := 15) (by kernel_rfl) rfl rfl (fun K hK => ?_) (fun K hK => ?_)
       ·have c20_B8_0 : W11.cell? ⟨w10.heap.size, 7 + (i + 3) * 6 + (i + 3), none⟩ = some (.int .i64 ((updF s0.1 (7 + i * 6 + i) r14.1) (7 + (i + 3) * 6 + (i + 3)))) := row_c B8_c11 (7 + (i + 3) * 6 + (i + 3)) (by omega)
        go_simp
        clear hHeld
        refine hK.out _ _ (NearR.same B8_c11.drew) (fun hHeld => ?_)
        clear hK K c20_B8_0
        refine call_at (i := 15) (by kernel_rfl) rfl (fun K hK => ?_)
        go_simp
        refine (rPart_any b r14.2 1024 ms 1000 _ BF_c11.drew).mono ?_
        rintro e w15 ⟨rfl, f15, k15⟩
        generalize e15 : partS r14.2 1024 ms 1000 = r15 at f15 ⊢
        have E15 : Hid _ := e15
        clear e15
        have K15 : Kept b w w15 := Kept.trans KC11.drew k15
        have B0_15 := B0_c11.drew.kept k15 (zG y1_BF)
        have B2_15 := B2_c11.drew.kept k15 (zG y3_BF)
        have B5_15 := B5_c11.drew.kept k15 (zG y18_BF)
        have B6_15 := B6_c11.drew.kept k15 (zG y31_BF)
        have B8_15 := B8_c11.drew.kept k15 (zG y33_BF)
        have z15 := B8_15.lies
        clear hHeld
        refine hK.out _ _ (NearR.same B8_15) (fun hHeld => ?_)
        clear hK K BF_c11 B0_c11 B2_c11 B5_c11 B6_c11 B8_c11 k15
        refine call_at (i := 16) (by kernel_rfl) rfl (fun K hK => ?_)
        go_simp
        refine (rAdd_any b r15.2 ((updF s0.1 (7 + i * 6 + i) r14.1) (7 + (i + 3) * 6 + (i + 3))) r15.1 _ f15).mono ?_
        rintro e w16 ⟨rfl, f16, k16⟩
        generalize e16 : addS r15.2 ((updF s0.1 (7 + i * 6 + i) r14.1) (7 + (i + 3) * 6 + (i + 3))) r15.1 = r16 at f16 ⊢
        have E16 : Hid _ := e16
        clear e16
        have K16 := Kept.trans K15 k16
        have B0_16 := B0_15.kept k16 (zG y1_BF)
        have B2_16 := B2_15.kept k16 (zG y3_BF)
        have B5_16 := B5_15.kept k16 (zG y18_BF)
        have B6_16 := B6_15.kept k16 (zG y31_BF)
        have B8_16 := B8_15.kept k16 (zG y33_BF)
        have z16 := B8_16.lies
        clear hHeld
        refine hK.out _ _ (NearR.same B8_16) (fun hHeld => ?_)
        clear hK K K15 f15 B0_15 B2_15 B5_15 B6_15 B8_15 k16
        refine zT (i := 19) (v := ?v261) rfl (by kernel_rfl) (fun _ _ _ h => h) (by rfl) ?y261 hHeld ?t261
        case y261 => (intro wx hSw; have hi0 : ((i : Int) + 3) < 6 := (by omega); have hj0 : 0 ≤ ((i : Int) + 3) := (by omega); have hk0 : (((i : Int) + 3)).toNat = (i + 3) := (by omega); go_simp <;> with_reducible rfl)
        simp only [Act.put, zA, zB, zC]
        refine call_at (i := 20) (by kernel_rfl) rfl (fun K hK => ?_)
        have c21_B8_0 : w16.cell? ⟨w10.heap.size, 7 + (i + 3) * 6 + (i + 3), none⟩ = some (.int .i64 ((updF s0.1 (7 + i * 6 + i) r14.1) (7 + (i + 3) * 6 + (i + 3)))) := row_c B8_16 (7 + (i + 3) * 6 + (i + 3)) (by omega)
        have g21_B8_1 := row_f B8_16 (7 + (i + 3) * 6 + (i + 3)) (by omega)
        go_simp
        clear hHeld
        refine hK.out _ _ (NearR.upd (row_put B8_16 (7 + (i + 3) * 6 + (i + 3)) (by omega) r16.1)) (fun hHeld => ?_)
        clear hK K c21_B8_0 g21_B8_1
        refine wpAnyH_done (by kernel_rfl) ?_ _
        clear hHeld
        refine put_cont hKK12 ?_
        exact cont12 _ _ _ _ _ _ _ _ _ _ _ _ _ _ _ _ _ _ _ _ _ _ _ _ _ _ _ _ _ _ _ _ _ _ _ _ _ _ _ _ _ _ _ _ _ _ _ _ _ _ _ _ _ _ _ _ _ _ _ _ _ _ _ _ _ _ _ _ _ _ _ _ _ _ _ _ _ _ _ _ _ _ _ _ _ _ _ _ _ _ _ _ _ _ _ _ _ _ _ _ _ _ _ _ _ _ _ _ _ _ _ _ _ _ _ _ _ _ _ _ _ _ _ _ _ _ _ _ _ _ _ _ _ _ _ _ _ _ _ _ _ _ _ _ _ _ _ _ _ _ _ _ _ _ _ _ _ _ _ _ _ _ _ _ _ _ _ _ _ _ _ _ _ _ _ _ _ _ _ _ _ _ _ _ _ r15 r16 E15 E16 (K16.new _ _ (by omega) _) (f16.new w10.heap.size (7 + (i + 3) * 6 + (i + 3)) (zL y33_BF) (.int .i64 r16.1)) (B0_16.new w10.heap.size (7 + (i + 3) * 6 + (i + 3)) (zL y33_B0) (.int .i64 r16.1)) (B2_16.new w10.heap.size (7 + (i + 3) * 6 + (i + 3)) (zL y33_B2) (.int .i64 r16.1)) (B5_16.new w10.heap.size (7 + (i + 3) * 6 + (i + 3)) (zL y33_B5) (.int .i64 r16.1)) (B6_16.new w10.heap.size (7 + (i + 3) * 6 + (i + 3)) (zL y33_B6) (.int .i64 r16.1)) (row_put B8_16 (7 + (i + 3) * 6 + (i + 3)) (by omega) r16.1)
       ·go_simp
        refine (rPart_any b r14.2 1024 ms 1000 _ BF_c11.drew).mono ?_
        rintro e w15 ⟨rfl, f15, k15⟩
        generalize e15 : partS r14.2 1024 ms 1000 = r15 at f15 ⊢
        have E15 : Hid _ := e15
        clear e15
        have K15 : Kept b w w15 := Kept.trans KC11.drew k15
        have B0_15 := B0_c11.drew.kept k15 (zG y1_BF)
        have B2_15 := B2_c11.drew.kept k15 (zG y3_BF)
        have B5_15 := B5_c11.drew.kept k15 (zG y18_BF)
        have B6_15 := B6_c11.drew.kept k15 (zG y31_BF)
        have B8_15 := B8_c11.drew.kept k15 (zG y33_BF)
        have z15 := B8_15.lies
        clear hHeld
        refine hK.out _ _ (NearR.same B8_15) (fun hHeld => ?_)
        clear hK K BF_c11 B0_c11 B2_c11 B5_c11 B6_c11 B8_c11 k15
        refine call_at (i := 12) (by kernel_rfl) rfl (fun K hK => ?_)
        have c20_B8_0 : w15.cell? ⟨w10.heap.size, 7 + (i + 3) * 6 + (i + 3), none⟩ = some (.int .i64 ((updF s0.1 (7 + i * 6 + i) r14.1) (7 + (i + 3) * 6 + (i + 3)))) := row_c B8_15 (7 + (i + 3) * 6 + (i + 3)) (by omega)
        go_simp
        clear hHeld
        refine hK.out _ _ (NearR.same B8_15) (fun hHeld => ?_)
        clear hK K c20_B8_0
        refine call_at (i := 16) (by kernel_rfl) rfl (fun K hK => ?_)
        go_simp
        refine (rAdd_any b r15.2 ((updF s0.1 (7 + i * 6 + i) r14.1) (7 + (i + 3) * 6 + (i + 3))) r15.1 _ f15).mono ?_
        rintro e w16 ⟨rfl, f16, k16⟩
        generalize e16 : addS r15.2 ((updF s0.1 (7 + i * 6 + i) r14.1) (7 + (i + 3) * 6 + (i + 3))) r15.1 = r16 at f16 ⊢
        have E16 : Hid _ := e16
        clear e16
        have K16 := Kept.trans K15 k16
        have B0_16 := B0_15.kept k16 (zG y1_BF)
        have B2_16 := B2_15.kept k16 (zG y3_BF)
        have B5_16 := B5_15.kept k16 (zG y18_BF)
        have B6_16 := B6_15.kept k16 (zG y31_BF)
        have B8_16 := B8_15.kept k16 (zG y33_BF)
        have z16 := B8_16.lies
        clear hHeld
        refine hK.out _ _ (NearR.same B8_16) (fun hHeld => ?_)
        clear hK K K15 f15 B0_15 B2_15 B5_15 B6_15 B8_15 k16
        refine zT (i := 19) (v := ?v262) rfl (by kernel_rfl) (fun _ _ _ h => h) (by rfl) ?y262 hHeld ?t262
        case y262 => (intro wx hSw; have hi0 : ((i : Int) + 3) < 6 := (by omega); have hj0 : 0 ≤ ((i : Int) + 3) := (by omega); have hk0 : (((i : Int) + 3)).toNat = (i + 3) := (by omega); go_simp <;> with_reducible rfl)
        simp only [Act.put, zA, zB, zC]
        refine call_at (i := 20) (by kernel_rfl) rfl (fun K hK => ?_)
        have c21_B8_0 : w16.cell? ⟨w10.heap.size, 7 + (i + 3) * 6 + (i + 3), none⟩ = some (.int .i64 ((updF s0.1 (7 + i * 6 + i) r14.1) (7 + (i + 3) * 6 + (i + 3)))) := row_c B8_16 (7 + (i + 3) * 6 + (i + 3)) (by omega)
        have g21_B8_1 := row_f B8_16 (7 + (i + 3) * 6 + (i + 3)) (by omega)
        go_simp
        clear hHeld
        refine hK.out _ _ (NearR.upd (row_put B8_16 (7 + (i + 3) * 6 + (i + 3)) (by omega) r16.1)) (fun hHeld => ?_)
        clear hK K c21_B8_0 g21_B8_1
        refine wpAnyH_done (by kernel_rfl) ?_ _
        clear hHeld
        refine put_cont hKK12 ?_
        exact cont12 _ _ _ _ _ _ _ _ _ _ _ _ _ _ _ _ _ _ _ _ _ _ _ _ _ _ _ _ _ _ _ _ _ _ _ _ _ _ _ _ _ _ _ _ _ _ _ _ _ _ _ _ _ _ _ _ _ _ _ _ _ _ _ _ _ _ _ _ _ _ _ _ _ _ _ _ _ _ _ _ _ _ _ _ _ _ _ _ _ _ _ _ _ _ _ _ _ _ _ _ _ _ _ _ _ _ _ _ _ _ _ _ _ _ _ _ _ _ _ _ _ _ _ _ _ _ _ _ _ _ _ _ _ _ _ _ _ _ _ _ _ _ _ _ _ _ _ _ _ _ _ _ _ _ _ _ _ _ _ _ _ _ _ _ _ _ _ _ _ _ _ _ _ _ _ _ _ _ _ _ _ _ _ _ _ r15 r16 E15 E16 (K16.new _ _ (by omega) _) (f16.new w10.heap.size (7 + (i + 3) * 6 + (i + 3)) (zL y33_BF) (.int .i64 r16.1)) (B0_16.new w10.heap.size (7 + (i + 3) * 6 + (i + 3)) (zL y33_B0) (.int .i64 r16.1)) (B2_16.new w10.heap.size (7 + (i + 3) * 6 + (i + 3)) (zL y33_B2) (.int .i64 r16.1)) (B5_16.new w10.heap.size (7 + (i + 3) * 6 + (i + 3)) (zL y33_B5) (.int .i64 r16.1)) (B6_16.new w10.heap.size (7 + (i + 3) * 6 + (i + 3)) (zL y33_B6) (.int .i64 r16.1)) (row_put B8_16 (7 + (i + 3) * 6 + (i + 3)) (by omega) r16.1)
      refine wp_region_held_drew (S := fun w' => NearR w10.heap.size 43 s0.1 (7 + i * 6 + i) w') (by kernel_rfl) (NearR.same B8_l0.drew) (fun hHeld => ?_)
      refine zT (i := 0) (v := ?v263) rfl (by kernel_rfl) (fun _ _ _ h => h) (by rfl) ?y263 hHeld ?t263
      case y263 => (intro wx hSw; go_simp <;> with_reducible rfl)
      simp only [Act.put, zA, zB, zC]
      refine zT (i := 1) (v := ?v264) rfl (by kernel_rfl) (fun _ _ _ h => h) (by rfl) ?y264 hHeld ?t264
      case y264 => (intro wx hSw; go_simp <;> with_reducible rfl)
      simp only [Act.put, zA, zB, zC]
      refine zT (i := 2) (v := ?v265) rfl (by kernel_rfl) (fun _ _ _ h => h) (by rfl) ?y265 hHeld ?t265
      case y265 => (intro wx hSw; go_simp <;> with_reducible rfl)
      simp only [Act.put, zA, zB, zC]
      refine zT (i := 3) (v := ?v266) rfl (by kernel_rfl) (fun _ _ _ h => h) (by rfl) ?y266 hHeld ?t266
      case y266 => (intro wx hSw; go_simp <;> with_reducible rfl)
      simp only [Act.put, zA, zB, zC]
      refine zT (i := 4) (v := ?v267) rfl (by kernel_rfl) (fun _ _ _ h => h) (by rfl) ?y267 hHeld ?t267
      case y267 => (intro wx hSw; go_simp <;> with_reducible rfl)
      simp only [Act.put, zA, zB, zC]
      refine zT (i := 5) (v := ?v268) rfl (by kernel_rfl) (fun _ _ _ h => h) (by rfl) ?y268 hHeld ?t268
      case y268 => (intro wx hSw; go_simp <;> with_reducible rfl)
      simp only [Act.put, zA, zB, zC]
      refine zT (i := 6) (v := ?v269) rfl (by kernel_rfl) (fun _ _ _ h => h) (by rfl) ?y269 hHeld ?t269
      case y269 => (intro wx hSw; have hi0 : (i : Int) < 6 := (by omega); go_simp <;> with_reducible rfl)
      simp only [Act.put, zA, zB, zC]
      refine zT (i := 7) (v := ?v270) rfl (by kernel_rfl) (fun _ _ _ h => h) (by rfl) ?y270 hHeld ?t270
      case y270 => (intro wx hSw; have hi0 : (i : Int) < 6 := (by omega); go_simp <;> with_reducible rfl)
      simp only [Act.put, zA, zB, zC]
      refine zT (i := 9) (v := ?v271) rfl (by kernel_rfl) (fun _ _ _ h => h) (by rfl) ?y271 hHeld ?t271
      case y271 => (intro wx hSw; go_simp <;> with_reducible rfl)
      simp only [Act.put, zA, zB, zC]
      refine zT (i := 10) (v := ?v272) rfl (by kernel_rfl) (fun _ _ _ h => h) (by rfl) ?y272 hHeld ?t272
      case y272 => (intro wx hSw; go_simp <;> with_reducible rfl)
      simp only [Act.put, zA, zB, zC]
      refine zT (i := 13) (v := ?v273) rfl (by kernel_rfl) (fun _ _ _ h => h) (by rfl) ?y273 hHeld ?t273
      case y273 => (intro wx hSw; go_simp <;> with_reducible rfl)
      simp only [Act.put, zA, zB, zC]
      refine zT (i := 14) (v := ?v274) rfl (by kernel_rfl) (fun _ _ _ h => h) (by rfl) ?y274 hHeld ?t274
      case y274 => (intro wx hSw; have hi0 : (i : Int) < 6 := (by omega); go_simp <;> with_reducible rfl)
      simp only [Act.put, zA, zB, zC]
      refine call_at2 (i0 := 8) (i1 := 11) (by kernel_rfl) rfl rfl (fun K hK => ?_) (fun K hK => ?_)
      ·have c19_B8_0 : Wl0.cell? ⟨w10.heap.size, 7 + i * 6 + i, none⟩ = some (.int .i64 (s0.1 (7 + i * 6 + i))) := row_c B8_l0 (7 + i * 6 + i) (by omega)
       go_simp
       clear hHeld
       refine hK.out _ _ (NearR.same B8_l0.drew) (fun hHeld => ?_)
       clear hK K c19_B8_0
       refine call_at (i := 11) (by kernel_rfl) rfl (fun K hK => ?_)
       go_simp
       refine (rPart_any b s0.2 65536 ms 1000 _ BF_l0.drew).mono ?_
       rintro e w13 ⟨rfl, f13, k13⟩
       generalize e13 : partS s0.2 65536 ms 1000 = r13 at f13 ⊢
       have E13 : Hid _ := e13
       clear e13
       have K13 : Kept b w w13 := Kept.trans Kl0.drew k13
       have B0_13 := B0_l0.drew.kept k13 (zG y1_BF)
       have B2_13 := B2_l0.drew.kept k13 (zG y3_BF)
       have B5_13 := B5_l0.drew.kept k13 (zG y18_BF)
       have B6_13 := B6_l0.drew.kept k13 (zG y31_BF)
       have B8_13 := B8_l0.drew.kept k13 (zG y33_BF)
       have z13 := B8_13.lies
       clear hHeld
       refine hK.out _ _ (NearR.same B8_13) (fun hHeld => ?_)
       clear hK K BF_l0 B0_l0 B2_l0 B5_l0 B6_l0 B8_l0 k13
       refine call_at (i := 12) (by kernel_rfl) rfl (fun K hK => ?_)
       go_simp
       refine (rAdd_any b r13.2 (s0.1 (7 + i * 6 + i)) r13.1 _ f13).mono ?_
       rintro e w14 ⟨rfl, f14, k14⟩
       generalize e14 : addS r13.2 (s0.1 (7 + i * 6 + i)) r13.1 = r14 at f14 ⊢
       have E14 : Hid _ := e14
       clear e14
       have K14 := Kept.trans K13 k14
       have B0_14 := B0_13.kept k14 (zG y1_BF)
       have B2_14 := B2_13.kept k14 (zG y3_BF)
       have B5_14 := B5_13.kept k14 (zG y18_BF)
       have B6_14 := B6_13.kept k14 (zG y31_BF)
       have B8_14 := B8_13.kept k14 (zG y33_BF)
       have z14 := B8_14.lies
       clear hHeld
       refine hK.out _ _ (NearR.same B8_14) (fun hHeld => ?_)
       clear hK K K13 f13 B0_13 B2_13 B5_13 B6_13 B8_13 k14
       refine zT (i := 15) (v := ?v275) rfl (by kernel_rfl) (fun _ _ _ h => h) (by rfl) ?y275 hHeld ?t275
       case y275 => (intro wx hSw; have hi0 : (i : Int) < 6 := (by omega); go_simp <;> with_reducible rfl)
       simp only [Act.put, zA, zB, zC]
       refine call_at (i := 16) (by kernel_rfl) rfl (fun K hK => ?_)
       have c20_B8_0 : w14.cell? ⟨w10.heap.size, 7 + i * 6 + i, none⟩ = some (.int .i64 (s0.1 (7 + i * 6 + i))) := row_c B8_14 (7 + i * 6 + i) (by omega)
       have g20_B8_1 := row_f B8_14 (7 + i * 6 + i) (by omega)
       go_simp
       clear hHeld
       refine hK.out _ _ (NearR.upd (row_put B8_14 (7 + i * 6 + i) (by omega) r14.1)) (fun hHeld => ?_)
       clear hK K c20_B8_0 g20_B8_1
       refine wpAnyH_done (by kernel_rfl) ?_ _
       clear hHeld
       refine put_cont hKK11 ?_
       exact cont11 _ _ _ _ _ _ _ _ _ _ _ _ _ _ _ _ _ _ _ _ _ _ _ _ _ _ _ _ _ _ _ _ _ _ _ _ _ _ _ _ _ _ _ _ _ _ _ _ _ _ _ _ _ _ _ _ _ _ _ _ _ _ _ _ _ _ _ _ _ _ _ _ _ _ _ _ _ _ _ _ _ _ _ _ _ _ _ _ _ _ _ _ _ _ _ _ _ _ _ _ _ _ _ _ _ _ _ _ _ _ _ _ _ _ _ _ _ _ _ _ _ _ _ _ _ _ _ _ _ _ _ _ _ _ _ _ _ _ _ _ _ _ _ _ _ _ _ _ _ _ _ _ _ _ _ _ _ _ _ _ _ _ _ _ _ _ _ _ _ _ _ _ _ _ _ _ _ _ _ _ _ _ _ _ _ r13 r14 E13 E14 (K14.new _ _ (by omega) _) (f14.new w10.heap.size (7 + i * 6 + i) (zL y33_BF) (.int .i64 r14.1)) (B0_14.new w10.heap.size (7 + i * 6 + i) (zL y33_B0) (.int .i64 r14.1)) (B2_14.new w10.heap.size (7 + i * 6 + i) (zL y33_B2) (.int .i64 r14.1)) (B5_14.new w10.heap.size (7 + i * 6 + i) (zL y33_B5) (.int .i64 r14.1)) (B6_14.new w10.heap.size (7 + i * 6 + i) (zL y33_B6) (.int .i64 r14.1)) (row_put B8_14 (7 + i * 6 + i) (by omega) r14.1)
      ·go_simp
       refine (rPart_any b s0.2 65536 ms 1000 _ BF_l0.drew).mono ?_
       rintro e w13 ⟨rfl, f13, k13⟩
       generalize e13 : partS s0.2 65536 ms 1000 = r13 at f13 ⊢
       have E13 : Hid _ := e13
       clear e13
       have K13 : Kept b w w13 := Kept.trans Kl0.drew k13
       have B0_13 := B0_l0.drew.kept k13 (zG y1_BF)
       have B2_13 := B2_l0.drew.kept k13 (zG y3_BF)
       have B5_13 := B5_l0.drew.kept k13 (zG y18_BF)
       have B6_13 := B6_l0.drew.kept k13 (zG y31_BF)
       have B8_13 := B8_l0.drew.kept k13 (zG y33_BF)
       have z13 := B8_13.lies
       clear hHeld
       refine hK.out _ _ (NearR.same B8_13) (fun hHeld => ?_)
       clear hK K BF_l0 B0_l0 B2_l0 B5_l0 B6_l0 B8_l0 k13
       refine call_at (i := 8) (by kernel_rfl) rfl (fun K hK => ?_)
       have c19_B8_0 : w13.cell? ⟨w10.heap.size, 7 + i * 6 + i, none⟩ = some (.int .i64 (s0.1 (7 + i * 6 + i))) := row_c B8_13 (7 + i * 6 + i) (by omega)
       go_simp
       clear hHeld
       refine hK.out _ _ (NearR.same B8_13) (fun hHeld => ?_)
       clear hK K c19_B8_0
       refine call_at (i := 12) (by kernel_rfl) rfl (fun K hK => ?_)
       go_simp
       refine (rAdd_any b r13.2 (s0.1 (7 + i * 6 + i)) r13.1 _ f13).mono ?_
       rintro e w14 ⟨rfl, f14, k14⟩
       generalize e14 : addS r13.2 (s0.1 (7 + i * 6 + i)) r13.1 = r14 at f14 ⊢
       have E14 : Hid _ := e14
       clear e14
       have K14 := Kept.trans K13 k14
       have B0_14 := B0_13.kept k14 (zG y1_BF)
       have B2_14 := B2_13.kept k14 (zG y3_BF)
       have B5_14 := B5_13.kept k14 (zG y18_BF)
       have B6_14 := B6_13.kept k14 (zG y31_BF)
       have B8_14 := B8_13.kept k14 (zG y33_BF)
       have z14 := B8_14.lies
       clear hHeld
       refine hK.out _ _ (NearR.same B8_14) (fun hHeld => ?_)
       clear hK K K13 f13 B0_13 B2_13 B5_13 B6_13 B8_13 k14
       refine zT (i := 15) (v := ?v276) rfl (by kernel_rfl) (fun _ _ _ h => h) (by rfl) ?y276 hHeld ?t276
       case y276 => (intro wx hSw; have hi0 : (i : Int) < 6 := (by omega); go_simp <;> with_reducible rfl)
       simp only [Act.put, zA, zB, zC]
       refine call_at (i := 16) (by kernel_rfl) rfl (fun K hK => ?_)
       have c20_B8_0 : w14.cell? ⟨w10.heap.size, 7 + i * 6 + i, none⟩ = some (.int .i64 (s0.1 (7 + i * 6 + i))) := row_c B8_14 (7 + i * 6 + i) (by omega)
       have g20_B8_1 := row_f B8_14 (7 + i * 6 + i) (by omega)
       go_simp
       clear hHeld
       refine hK.out _ _ (NearR.upd (row_put B8_14 (7 + i * 6 + i) (by omega) r14.1)) (fun hHeld => ?_)
       clear hK K c20_B8_0 g20_B8_1
       refine wpAnyH_done (by kernel_rfl) ?_ _
       clear hHeld
       refine put_cont hKK11 ?_
       exact cont11 _ _ _ _ _ _ _ _ _ _ _ _ _ _ _ _ _ _ _ _ _ _ _ _ _ _ _ _ _ _ _ _ _ _ _ _ _ _ _ _ _ _ _ _ _ _ _ _ _ _ _ _ _ _ _ _ _ _ _ _ _ _ _ _ _ _ _ _ _ _ _ _ _ _ _ _ _ _ _ _ _ _ _ _ _ _ _ _ _ _ _ _ _ _ _ _ _ _ _ _ _ _ _ _ _ _ _ _ _ _ _ _ _ _ _ _ _ _ _ _ _ _ _ _ _ _ _ _ _ _ _ _ _ _ _ _ _ _ _ _ _ _ _ _ _ _ _ _ _ _ _ _ _ _ _ _ _ _ _ _ _ _ _ _ _ _ _ _ _ _ _ _ _ _ _ _ _ _ _ _ _ _ _ _ _ r13 r14 E13 E14 (K14.new _ _ (by omega) _) (f14.new w10.heap.size (7 + i * 6 + i) (zL y33_BF) (.int .i64 r14.1)) (B0_14.new w10.heap.size (7 + i * 6 + i) (zL y33_B0) (.int .i64 r14.1)) (B2_14.new w10.heap.size (7 + i * 6 + i) (zL y33_B2) (.int .i64 r14.1)) (B5_14.new w10.heap.size (7 + i * 6 + i) (zL y33_B5) (.int .i64 r14.1)) (B6_14.new w10.heap.size (7 + i * 6 + i) (zL y33_B6) (.int .i64 r14.1)) (row_put B8_14 (7 + i * 6 + i) (by omega) r14.1)
     ·intro a Wl0 hI R
      rw [hJ0.out] at hI
      refine hI _ ?_
      clear hI hJ0
      intro r13 A0 C0 D0 F0 G0 L0 M0 N0 O0 P0 Q0 E13 ea Kl0 BF_l0 B0_l0 B2_l0 B5_l0 B6_l0 B8_l0
      subst ea
      have zl0_BF := BF_l0.lies
      have zl0_B0 := B0_l0.lies
      have zl0_B2 := B2_l0.lies
      have zl0_B5 := B5_l0.lies
      have zl0_B6 := B6_l0.lies
      have zl0_B8 := B8_l0.lies
      go_wp2_with fail
      refine wp_region_held_drew (S := fun w' => Arr Wl4.heap.size (row 6 r8.1) w' ∧ Arr w5.heap.size [.int .i64 r5.1.1, .int .i64 r5.1.2.1, .int .i64 r5.1.2.2.1, .int .i64 r5.1.2.2.2] w') (by kernel_rfl) ⟨B6_l0.drew, B5_l0.drew⟩ (fun hHeld => ?_)
      refine zT (i := 0) (v := ?v277) rfl (by kernel_rfl) (fun _ _ _ h => h) (by rfl) ?y277 hHeld ?t277
      case y277 => (intro wx hSw; go_simp <;> with_reducible rfl)
      simp only [Act.put, zA, zB, zC]
      refine zT (i := 1) (v := ?v278) rfl (by kernel_rfl) (fun _ _ _ h => h) (by rfl) ?y278 hHeld ?t278
      case y278 => (intro wx hSw; go_simp <;> with_reducible rfl)
      simp only [Act.put, zA, zB, zC]
      refine zT (i := 2) (v := ?v279) rfl (by kernel_rfl) (fun _ _ _ h => h) (by rfl) ?y279 hHeld ?t279
      case y279 => (intro wx hSw; go_simp <;> with_reducible rfl)
      simp only [Act.put, zA, zB, zC]
      refine take_at (i := 3) rfl (by kernel_rfl) (by kernel_rfl) (by kernel_rfl) (fun _ _ _ h => h) (row_yield (by rfl) rfl rfl (fun _ hSw => hSw.1) (by kernel_rfl) (by rw [row_len]; kernel_rfl)) hHeld ?_
      simp only [Act.put, zA, zB, zC]
      refine zT (i := 6) (v := ?v280) rfl (by kernel_rfl) (fun _ _ _ h => h) (by rfl) ?y280 hHeld ?t280
      case y280 => (intro wx hSw; have hc0 : wx.cell? ⟨w5.heap.size, 0, none⟩ = some (.int .i64 r5.1.1) := hSw.2.c 0 (zD rfl); have hc1 : wx.cell? ⟨w5.heap.size, 1, none⟩ = some (.int .i64 r5.1.2.1) := hSw.2.c 1 (zD rfl); have hc2 : wx.cell? ⟨w5.heap.size, 2, none⟩ = some (.int .i64 r5.1.2.2.1) := hSw.2.c 2 (zD rfl); have hc3 : wx.cell? ⟨w5.heap.size, 3, none⟩ = some (.int .i64 r5.1.2.2.2) := hSw.2.c 3 (zD rfl); go_simp <;> with_reducible rfl)
      simp only [Act.put, zA, zB, zC]
      refine call_at (i := 4) (by kernel_rfl) rfl (fun K hK => ?_)
      go_simp
      refine (ffirst_any r8.1 _).mono ?_
      rintro e w14 ⟨rfl, k14⟩
      generalize e14 : ffirstP r8.1 = r14
      have E14 : Hid _ := e14
      clear e14
      have K14 : Kept b w w14 := Kept.trans Kl0.drew (Kept.of_below k14)
      have BF_14 := BF_l0.drew.below k14
      have B0_14 := B0_l0.drew.below k14
      have B2_14 := B2_l0.drew.below k14
      have B5_14 := B5_l0.drew.below k14
      have B6_14 := B6_l0.drew.below k14
      have B8_14 := B8_l0.drew.below k14
      have z14 := B8_14.lies
      clear hHeld
      refine hK.out _ _ ⟨B6_14, B5_14⟩ (fun hHeld => ?_)
      clear hK K BF_l0 B0_l0 B2_l0 B5_l0 B6_l0 B8_l0 k14
      refine call_at (i := 5) (by kernel_rfl) rfl (fun K hK => ?_)
      go_simp
      refine (yFromRod_any b r13.2 r14 _ BF_14).mono ?_
      rintro e w15 ⟨rfl, f15, k15⟩
      generalize e15 : qFromRodS r13.2 r14 = r15 at f15 ⊢
      have E15 : Hid _ := e15
      clear e15
      have K15 := Kept.trans K14 k15
      have B0_15 := B0_14.kept k15 (zG y1_BF)
      have B2_15 := B2_14.kept k15 (zG y3_BF)
      have B5_15 := B5_14.kept k15 (zG y18_BF)
      have B6_15 := B6_14.kept k15 (zG y31_BF)
      have B8_15 := B8_14.kept k15 (zG y33_BF)
      have z15 := B8_15.lies
      clear hHeld
      refine hK.out _ _ ⟨B6_15, B5_15⟩ (fun hHeld => ?_)
      clear hK K K14 BF_14 B0_14 B2_14 B5_14 B6_14 B8_14 k15
      refine call_at (i := 7) (by kernel_rfl) rfl (fun K hK => ?_)
      go_simp
      refine (yMul_any b r15.2 r15.1 r5.1 _ f15).mono ?_
      rintro e w16 ⟨rfl, f16, k16⟩
      generalize e16 : qMulS r15.2 r15.1 r5.1 = r16 at f16 ⊢
      have E16 : Hid _ := e16
      clear e16
      have K16 := Kept.trans K15 k16
      have B0_16 := B0_15.kept k16 (zG y1_BF)
      have B2_16 := B2_15.kept k16 (zG y3_BF)
      have B5_16 := B5_15.kept k16 (zG y18_BF)
      have B6_16 := B6_15.kept k16 (zG y31_BF)
      have B8_16 := B8_15.kept k16 (zG y33_BF)
      have z16 := B8_16.lies
      clear hHeld
      refine hK.out _ _ ⟨B6_16, B5_16⟩ (fun hHeld => ?_)
      clear hK K K15 f15 B0_15 B2_15 B5_15 B6_15 B8_15 k16
      refine call_at (i := 8) (by kernel_rfl) rfl (fun K hK => ?_)
      go_simp
      refine (yUnit_any b r16.2 r16.1 _ f16).mono ?_
      rintro e w17 ⟨rfl, f17, k17⟩
      generalize e17 : qUnitS r16.2 r16.1 = r17 at f17 ⊢
      have E17 : Hid _ := e17
      clear e17
      have K17 := Kept.trans K16 k17
      have B0_17 := B0_16.kept k17 (zG y1_BF)
      have B2_17 := B2_16.kept k17 (zG y3_BF)
      have B5_17 := B5_16.kept k17 (zG y18_BF)
      have B6_17 := B6_16.kept k17 (zG y31_BF)
      have B8_17 := B8_16.kept k17 (zG y33_BF)
      have z17 := B8_17.lies
      clear hHeld
      refine hK.out _ _ ⟨B6_17, B5_17⟩ (fun hHeld => ?_)
      clear hK K K16 f16 B0_16 B2_16 B5_16 B6_16 B8_16 k17
      refine zT (i := 9) (v := ?v281) rfl (by kernel_rfl) (fun _ _ _ h => h) (by rfl) ?y281 hHeld ?t281
      case y281 => (intro wx hSw; go_simp <;> with_reducible rfl)
      simp only [Act.put, zA, zB, zC]
      refine call_at (i := 10) (by kernel_rfl) rfl (fun K hK => ?_)
      have c20_B8_0 : w17.cell? ⟨w10.heap.size, 0, none⟩ = some (.int .i64 (r13.1 0)) := row_c B8_17 0 (by omega)
      have c20_B8_1 : w17.cell? ⟨w10.heap.size, 1, none⟩ = some (.int .i64 (r13.1 1)) := row_c B8_17 1 (by omega)
      have c20_B8_2 : w17.cell? ⟨w10.heap.size, 2, none⟩ = some (.int .i64 (r13.1 2)) := row_c B8_17 2 (by omega)
      have c20_B8_3 : w17.cell? ⟨w10.heap.size, 3, none⟩ = some (.int .i64 (r13.1 3)) := row_c B8_17 3 (by omega)
      have g20_B8_4 := row_f B8_17 0 (by omega)
      have g20_B8_5 := row_f B8_17 1 (by omega)
      have g20_B8_6 := row_f B8_17 2 (by omega)
      have g20_B8_7 := row_f B8_17 3 (by omega)
      go_simp
      clear hHeld
      refine hK.out _ _ ⟨((((B6_17.new w10.heap.size 0 (zL y33_B6) (.int .i64 r17.1.1)).new w10.heap.size 1 (zL y33_B6) (.int .i64 r17.1.2.1)).new w10.heap.size 2 (zL y33_B6) (.int .i64 r17.1.2.2.1)).new w10.heap.size 3 (zL y33_B6) (.int .i64 r17.1.2.2.2)), ((((B5_17.new w10.heap.size 0 (zL y33_B5) (.int .i64 r17.1.1)).new w10.heap.size 1 (zL y33_B5) (.int .i64 r17.1.2.1)).new w10.heap.size 2 (zL y33_B5) (.int .i64 r17.1.2.2.1)).new w10.heap.size 3 (zL y33_B5) (.int .i64 r17.1.2.2.2))⟩ (fun hHeld => ?_)
      clear hK K c20_B8_0 c20_B8_1 c20_B8_2 c20_B8_3 g20_B8_4 g20_B8_5 g20_B8_6 g20_B8_7
      refine wpAnyH_done (by kernel_rfl) ?_ _
      clear hHeld
      go_wp2_with fail
      refine code_letter (S := fun w' => Kept b w w' ∧ Fl b r17.2 w' ∧ Arr w.heap.size (row 43 g) w' ∧ Arr (w.heap.size + 1 + 1) (row 43 (fun _ => 0)) w' ∧ Arr Wl4.heap.size (row 6 r8.1) w' ∧ Arr w10.heap.size (row 43 (updF (updF (updF (updF r13.1 0 r17.1.1) 1 r17.1.2.1) 2 r17.1.2.2.1) 3 r17.1.2.2.2)) w') ⟨((((K17.new _ _ (by omega) _).new _ _ (by omega) _).new _ _ (by omega) _).new _ _ (by omega) _), ((((f17.new w10.heap.size 0 (zL y33_BF) (.int .i64 r17.1.1)).new w10.heap.size 1 (zL y33_BF) (.int .i64 r17.1.2.1)).new w10.heap.size 2 (zL y33_BF) (.int .i64 r17.1.2.2.1)).new w10.heap.size 3 (zL y33_BF) (.int .i64 r17.1.2.2.2)), ((((B0_17.new w10.heap.size 0 (zL y33_B0) (.int .i64 r17.1.1)).new w10.heap.size 1 (zL y33_B0) (.int .i64 r17.1.2.1)).new w10.heap.size 2 (zL y33_B0) (.int .i64 r17.1.2.2.1)).new w10.heap.size 3 (zL y33_B0) (.int .i64 r17.1.2.2.2)), ((((B2_17.new w10.heap.size 0 (zL y33_B2) (.int .i64 r17.1.1)).new w10.heap.size 1 (zL y33_B2) (.int .i64 r17.1.2.1)).new w10.heap.size 2 (zL y33_B2) (.int .i64 r17.1.2.2.1)).new w10.heap.size 3 (zL y33_B2) (.int .i64 r17.1.2.2.2)), ((((B6_17.new w10.heap.size 0 (zL y33_B6) (.int .i64 r17.1.1)).new w10.heap.size 1 (zL y33_B6) (.int .i64 r17.1.2.1)).new w10.heap.size 2 (zL y33_B6) (.int .i64 r17.1.2.2.1)).new w10.heap.size 3 (zL y33_B6) (.int .i64 r17.1.2.2.2)), (row_put (row_put (row_put (row_put B8_17 0 (by omega) r17.1.1) 1 (by omega) r17.1.2.1) 2 (by omega) r17.1.2.2.1) 3 (by omega) r17.1.2.2.2)⟩ ?_
      rintro w18 ⟨K18, BF_18, B0_18, B2_18, B6_18, B8_18⟩
      have z18 := B8_18.lies
      clear K17 f17 B0_17 B2_17 B6_17 B8_17
      refine wp_region_held_drew (S := fun w' => Arr w.heap.size (row 43 g) w' ∧ Arr Wl4.heap.size (row 6 r8.1) w') (by kernel_rfl) ⟨B0_18.drew, B6_18.drew⟩ (fun hHeld => ?_)
      refine zT (i := 0) (v := ?v282) rfl (by kernel_rfl) (fun _ _ _ h => h) (by rfl) ?y282 hHeld ?t282
      case y282 => (intro wx hSw; go_simp <;> with_reducible rfl)
      simp only [Act.put, zA, zB, zC]
      refine zT (i := 1) (v := ?v283) rfl (by kernel_rfl) (fun _ _ _ h => h) (by rfl) ?y283 hHeld ?t283
      case y283 => (intro wx hSw; go_simp <;> with_reducible rfl)
      simp only [Act.put, zA, zB, zC]
      refine zT (i := 2) (v := ?v284) rfl (by kernel_rfl) (fun _ _ _ h => h) (by rfl) ?y284 hHeld ?t284
      case y284 => (intro wx hSw; have hc0 : wx.cell? ⟨w.heap.size, 4, none⟩ = some (.int .i64 (g 4)) := row_c hSw.1 4 (by omega); have hc1 : wx.cell? ⟨w.heap.size, 5, none⟩ = some (.int .i64 (g 5)) := row_c hSw.1 5 (by omega); have hc2 : wx.cell? ⟨w.heap.size, 6, none⟩ = some (.int .i64 (g 6)) := row_c hSw.1 6 (by omega); go_simp <;> with_reducible rfl)
      simp only [Act.put, zA, zB, zC]
      refine take_at (i := 3) rfl (by kernel_rfl) (by kernel_rfl) (by kernel_rfl) (fun _ _ _ h => h) (row_yield (by rfl) rfl rfl (fun _ hSw => hSw.2) (by kernel_rfl) (by rw [row_len]; kernel_rfl)) hHeld ?_
      simp only [Act.put, zA, zB, zC]
      refine call_at (i := 4) (by kernel_rfl) rfl (fun K hK => ?_)
      go_simp
      refine (flast_any r8.1 _).mono ?_
      rintro e w19 ⟨rfl, k19⟩
      generalize e19 : flastP r8.1 = r19
      have E19 : Hid _ := e19
      clear e19
      have K19 : Kept b w w19 := Kept.trans K18.drew (Kept.of_below k19)
      have BF_19 := BF_18.drew.below k19
      have B0_19 := B0_18.drew.below k19
      have B2_19 := B2_18.drew.below k19
      have B6_19 := B6_18.drew.below k19
      have B8_19 := B8_18.drew.below k19
      have z19 := B8_19.lies
      clear hHeld
      refine hK.out _ _ ⟨B0_19, B6_19⟩ (fun hHeld => ?_)
      clear hK K K18 BF_18 B0_18 B2_18 B6_18 B8_18 k19
      refine call_at (i := 5) (by kernel_rfl) rfl (fun K hK => ?_)
      go_simp
      refine (xAdd_any b r17.2 ((g 4), (g 5), (g 6)) r19 _ BF_19).mono ?_
      rintro e w20 ⟨rfl, f20, k20⟩
      generalize e20 : vAddS r17.2 ((g 4), (g 5), (g 6)) r19 = r20 at f20 ⊢
      have E20 : Hid _ := e20
      clear e20
      have K20 := Kept.trans K19 k20
      have B0_20 := B0_19.kept k20 (zG y1_BF)
      have B2_20 := B2_19.kept k20 (zG y3_BF)
      have B6_20 := B6_19.kept k20 (zG y31_BF)
      have B8_20 := B8_19.kept k20 (zG y33_BF)
      have z20 := B8_20.lies
      clear hHeld
      refine hK.out _ _ ⟨B0_20, B6_20⟩ (fun hHeld => ?_)
      clear hK K K19 BF_19 B0_19 B2_19 B6_19 B8_19 k20
      refine zT (i := 6) (v := ?v285) rfl (by kernel_rfl) (fun _ _ _ h => h) (by rfl) ?y285 hHeld ?t285
      case y285 => (intro wx hSw; go_simp <;> with_reducible rfl)
      simp only [Act.put, zA, zB, zC]
      refine call_at (i := 7) (by kernel_rfl) rfl (fun K hK => ?_)
      have c22_B8_0 : w20.cell? ⟨w10.heap.size, 4, none⟩ = some (.int .i64 ((updF (updF (updF (updF r13.1 0 r17.1.1) 1 r17.1.2.1) 2 r17.1.2.2.1) 3 r17.1.2.2.2) 4)) := row_c B8_20 4 (by omega)
      have c22_B8_1 : w20.cell? ⟨w10.heap.size, 5, none⟩ = some (.int .i64 ((updF (updF (updF (updF r13.1 0 r17.1.1) 1 r17.1.2.1) 2 r17.1.2.2.1) 3 r17.1.2.2.2) 5)) := row_c B8_20 5 (by omega)
      have c22_B8_2 : w20.cell? ⟨w10.heap.size, 6, none⟩ = some (.int .i64 ((updF (updF (updF (updF r13.1 0 r17.1.1) 1 r17.1.2.1) 2 r17.1.2.2.1) 3 r17.1.2.2.2) 6)) := row_c B8_20 6 (by omega)
      have g22_B8_3 := row_f B8_20 4 (by omega)
      have g22_B8_4 := row_f B8_20 5 (by omega)
      have g22_B8_5 := row_f B8_20 6 (by omega)
      go_simp
      clear hHeld
      refine hK.out _ _ ⟨(((B0_20.new w10.heap.size 4 (zL y33_B0) (.int .i64 r20.1.1)).new w10.heap.size 5 (zL y33_B0) (.int .i64 r20.1.2.1)).new w10.heap.size 6 (zL y33_B0) (.int .i64 r20.1.2.2)), (((B6_20.new w10.heap.size 4 (zL y33_B6) (.int .i64 r20.1.1)).new w10.heap.size 5 (zL y33_B6) (.int .i64 r20.1.2.1)).new w10.heap.size 6 (zL y33_B6) (.int .i64 r20.1.2.2))⟩ (fun hHeld => ?_)
      clear hK K c22_B8_0 c22_B8_1 c22_B8_2 g22_B8_3 g22_B8_4 g22_B8_5
      refine wpAnyH_done (by kernel_rfl) ?_ _
      clear hHeld
      rcases Bool.eq_false_or_eq_true r20.2 with hc1 | hc1
      ·have Hhc1 : Hid (r20.2 = true) := hc1
       have c23_BF := f20.cell
       go_wp2_with (refine store_stop rfl (by kernel_rfl) ?_)
       clear c23_BF
       refine Stop.mk (store_row (l' := row 43 (fun _ => 0)) rfl rfl rfl rfl (((B2_20.new w10.heap.size 4 (zL y33_B2) (.int .i64 r20.1.1)).new w10.heap.size 5 (zL y33_B2) (.int .i64 r20.1.2.1)).new w10.heap.size 6 (zL y33_B2) (.int .i64 r20.1.2.2)) (by simp only [row_len]) (by rw [row_len]; kernel_rfl) (row_one _ _) ?_)
       intro w21 B2_21 o21
       have K21 : Kept b w w21 := Kept.off (((K20.new w10.heap.size 4 (by omega) (.int .i64 r20.1.1)).new w10.heap.size 5 (by omega) (.int .i64 r20.1.2.1)).new w10.heap.size 6 (by omega) (.int .i64 r20.1.2.2)) o21 (by omega)
       have BF_21 := (((f20.new w10.heap.size 4 (zL y33_BF) (.int .i64 r20.1.1)).new w10.heap.size 5 (zL y33_BF) (.int .i64 r20.1.2.1)).new w10.heap.size 6 (zL y33_BF) (.int .i64 r20.1.2.2)).off o21 (zL y3_BF)
       have z21_B2 := B2_21.lies
       have z21_BF := BF_21.lies
       clear K20 B2_20 f20 o21
       go_wp2_with (with_reducible refine post_stop ?_)
       refine Stop.mk ?_
       refine bodyPost_ret (v := .agg (row 43 (fun _ => 0)).toArray) (results_arr Tryz.results7 B2_21 rfl (by kernel_rfl) (by rw [row_len]; kernel_rfl)) rfl ?_
       have hs : fMoveinS bd g v ms = ((fun _ => 0), r20.2) := by unfold fMoveinS; simp only [E1.out, E4.out, E5.out, E6.out, E8.out, E9.out, E12.out, E13.out, E14.out, E15.out, E16.out, E17.out, E19.out, E20.out]; rw [if_pos Hhc1.out]
       rw [hs]
       exact ⟨rfl, BF_21, K21⟩
      ·have Hhc1 : Hid (r20.2 = false) := hc1
       have c23_BF := f20.cell
       go_wp2_with (first | (refine row_load rfl rfl rfl (row_put (row_put (row_put B8_20 4 (by omega) r20.1.1) 5 (by omega) r20.1.2.1) 6 (by omega) r20.1.2.2) (by kernel_rfl) (by rw [row_len]; kernel_rfl) ?_) | (refine store_stop rfl (by kernel_rfl) ?_))
       clear c23_BF
       refine Stop.mk (store_row (l' := row 43 (updF (updF (updF (updF (updF (updF (updF r13.1 0 r17.1.1) 1 r17.1.2.1) 2 r17.1.2.2.1) 3 r17.1.2.2.2) 4 r20.1.1) 5 r20.1.2.1) 6 r20.1.2.2)) rfl rfl rfl rfl (((B2_20.new w10.heap.size 4 (zL y33_B2) (.int .i64 r20.1.1)).new w10.heap.size 5 (zL y33_B2) (.int .i64 r20.1.2.1)).new w10.heap.size 6 (zL y33_B2) (.int .i64 r20.1.2.2)) (by simp only [row_len]) (by rw [row_len]; kernel_rfl) (row_one _ _) ?_)
       intro w21 B2_21 o21
       have K21 : Kept b w w21 := Kept.off (((K20.new w10.heap.size 4 (by omega) (.int .i64 r20.1.1)).new w10.heap.size 5 (by omega) (.int .i64 r20.1.2.1)).new w10.heap.size 6 (by omega) (.int .i64 r20.1.2.2)) o21 (by omega)
       have BF_21 := (((f20.new w10.heap.size 4 (zL y33_BF) (.int .i64 r20.1.1)).new w10.heap.size 5 (zL y33_BF) (.int .i64 r20.1.2.1)).new w10.heap.size 6 (zL y33_BF) (.int .i64 r20.1.2.2)).off o21 (zL y3_BF)
       have B8_21 := (row_put (row_put (row_put B8_20 4 (by omega) r20.1.1) 5 (by omega) r20.1.2.1) 6 (by omega) r20.1.2.2).off o21 (zG y33_B2)
       have z21_B2 := B2_21.lies
       have z21_BF := BF_21.lies
       have z21_B8 := B8_21.lies
       clear K20 B2_20 f20 B8_20 o21
       go_wp2_with (with_reducible refine post_stop ?_)
       refine Stop.mk ?_
       refine bodyPost_ret (v := .agg (row 43 (updF (updF (updF (updF (updF (updF (updF r13.1 0 r17.1.1) 1 r17.1.2.1) 2 r17.1.2.2.1) 3 r17.1.2.2.2) 4 r20.1.1) 5 r20.1.2.1) 6 r20.1.2.2)).toArray) (results_arr Tryz.results7 B2_21 rfl (by kernel_rfl) (by rw [row_len]; kernel_rfl)) rfl ?_
       have hs : fMoveinS bd g v ms = ((updF (updF (updF (updF (updF (updF (updF r13.1 0 r17.1.1) 1 r17.1.2.1) 2 r17.1.2.2.1) 3 r17.1.2.2.2) 4 r20.1.1) 5 r20.1.2.1) 6 r20.1.2.2), r20.2) := by unfold fMoveinS; simp only [E1.out, E4.out, E5.out, E6.out, E8.out, E9.out, E12.out, E13.out, E14.out, E15.out, E16.out, E17.out, E19.out, E20.out]; rw [if_neg (by rw [Hhc1.out]; decide)]
       rw [hs]
       exact ⟨rfl, BF_21, K21⟩
end Go.Proofs.YtpjobkbefgehjaaGreat
