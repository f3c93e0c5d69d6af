/-
  The walk of the reference's Earth, off the axis, for the seat YtmhcfkcpoecokaaDoor. (Made by mkfield.py.)
-/
import Derived.Test.YtmhcfkcpoecokaaDoorJH
import Derived.Test.YtmhcfkcpoecokaaDoorHLeg
import Derived.Test.YtmhcfkcpoecokaaDoorJK
import Derived.Test.YtmhcfkcpoecokaaDoorJG
import Derived.Handy
import Derived.Deep.RegionHeld3
namespace Go.Proofs.YtmhcfkcpoecokaaDoor
open Go.RowKit

set_option maxRecDepth 100000 in
set_option maxHeartbeats 4000000 in
theorem rearth_far (b : Nat) (p : V3) (t r x y z d : Int) (E : EarthT p t r x y z) (w : World) (hw : Fl b false w) (hr : vNormS false p = (r, false)) (hd : cDaysS false t = (d, false)) (c1 : ¬ r < 6597069766656) (c2 : ¬ r > 10995116277760) (hl : ¬ E.wn < 1048576) (hu : divS false p.1 E.wn = (E.u, false)) (hv : divS false p.2.1 E.wn = (E.v, false)) :
    Calls Tryd.prog 12 #[.pointer (some ⟨b, 0, none⟩), .agg #[.int .i64 p.1, .int .i64 p.2.1, .int .i64 p.2.2], .int .i64 t] w fun e w' => e = .returned (.agg #[.int .i64 x, .int .i64 y, .int .i64 z]) ∧ Fl b false w' ∧ Kept b w w' := by
  have hl_ := hw.lies
  have hwn : normS false p.1 p.2.1 0 = (E.wn, false) := E.hw
  have W_ := E.W
  have V_ := E.V
  go_enter Tryd.func12, Tryd.ntmps12
  have y1_BF : b < w.heap.size := hw.lies
  have y2_BF : b < w.heap.size + 1 := (Nat.lt_succ_of_lt hw.lies)
  have y2_B0 : w.heap.size < w.heap.size + 1 := (Nat.lt_succ_self _)
  go_wp2_with fail
  refine (xNorm_any b false p _ ((hw.alloc _).alloc _)).mono ?_
  rintro e w1 ⟨rfl, f1, k1⟩
  rw [hr] at f1 ⊢
  dsimp only at f1 ⊢
  have K1 : Kept b w w1 := Kept.trans (((Kept.refl b w).al _).al _) k1
  have B0_1 := ((Arr_at _ _ [.int .i64 p.1, .int .i64 p.2.1, .int .i64 p.2.2] _ (by simp)).alloc _).kept k1 (Nat.ne_of_gt y1_BF)
  have B1_1 := (Arr_at _ _ [.int .i64 0, .int .i64 0, .int .i64 0] _ (by simp)).kept k1 (Nat.ne_of_gt y2_BF)
  have z1 := B1_1.lies
  clear k1
  go_wp2_with fail
  refine (dDays_any b false t _ f1).mono ?_
  rintro e w2 ⟨rfl, f2, k2⟩
  rw [hd] at f2 ⊢
  dsimp only at f2 ⊢
  have K2 : Kept b w w2 := Kept.trans K1 k2
  have B0_2 := B0_1.kept k2 (Nat.ne_of_gt y1_BF)
  have B1_2 := B1_1.kept k2 (Nat.ne_of_gt y2_BF)
  have z2 := B1_2.lies
  clear K1 f1 B0_1 B1_1 k2
  have c3_B0_0 : w2.cell? ⟨w.heap.size, 0, none⟩ = some (.int .i64 p.1) := B0_2.c 0 (of_decide_eq_true rfl)
  have c3_B0_1 : w2.cell? ⟨w.heap.size, 1, none⟩ = some (.int .i64 p.2.1) := B0_2.c 1 (of_decide_eq_true rfl)
  have c3_BF := f2.cell
  go_wp2_with fail
  refine (rNorm_any b false p.1 p.2.1 0 _ f2).mono ?_
  rintro e w3 ⟨rfl, f3, k3⟩
  rw [hwn] at f3 ⊢
  dsimp only at f3 ⊢
  have K3 : Kept b w w3 := Kept.trans K2 k3
  have B0_3 := B0_2.kept k3 (Nat.ne_of_gt y1_BF)
  have B1_3 := B1_2.kept k3 (Nat.ne_of_gt y2_BF)
  have z3 := B1_3.lies
  clear c3_B0_0 c3_B0_1 c3_BF K2 f2 B0_2 B1_2 k3
  have c4_B0_2 : w3.cell? ⟨w.heap.size, 2, none⟩ = some (.int .i64 p.2.2) := B0_3.c 2 (of_decide_eq_true rfl)
  go_wp2_with fail
  refine (rDiv_any b false p.2.2 r _ f3).mono ?_
  rintro e w4 ⟨rfl, f4, k4⟩
  rw [E.hc] at f4 ⊢
  dsimp only at f4 ⊢
  have K4 : Kept b w w4 := Kept.trans K3 k4
  have B0_4 := B0_3.kept k4 (Nat.ne_of_gt y1_BF)
  have B1_4 := B1_3.kept k4 (Nat.ne_of_gt y2_BF)
  have z4 := B1_4.lies
  clear c4_B0_2 K3 f3 B0_3 B1_3 k4
  go_wp2_with fail
  refine (rDiv_any b false E.wn r _ f4).mono ?_
  rintro e w5 ⟨rfl, f5, k5⟩
  rw [E.hs] at f5 ⊢
  dsimp only at f5 ⊢
  have K5 : Kept b w w5 := Kept.trans K4 k5
  have B0_5 := B0_4.kept k5 (Nat.ne_of_gt y1_BF)
  have B1_5 := B1_4.kept k5 (Nat.ne_of_gt y2_BF)
  have z5 := B1_5.lies
  clear K4 f4 B0_4 B1_4 k5
  have c6_B0_0 : w5.cell? ⟨w.heap.size, 0, none⟩ = some (.int .i64 p.1) := B0_5.c 0 (of_decide_eq_true rfl)
  go_wp2_with fail
  refine (rDiv_any b false p.1 E.wn _ f5).mono ?_
  rintro e w6 ⟨rfl, f6, k6⟩
  rw [hu] at f6 ⊢
  dsimp only at f6 ⊢
  have K6 : Kept b w w6 := Kept.trans K5 k6
  have B0_6 := B0_5.kept k6 (Nat.ne_of_gt y1_BF)
  have B1_6 := B1_5.kept k6 (Nat.ne_of_gt y2_BF)
  have z6 := B1_6.lies
  clear c6_B0_0 K5 f5 B0_5 B1_5 k6
  have c7_B0_1 : w6.cell? ⟨w.heap.size, 1, none⟩ = some (.int .i64 p.2.1) := B0_6.c 1 (of_decide_eq_true rfl)
  go_wp2_with fail
  refine (rDiv_any b false p.2.1 E.wn _ f6).mono ?_
  rintro e w7 ⟨rfl, f7, k7⟩
  rw [hv] at f7 ⊢
  dsimp only at f7 ⊢
  have K7 : Kept b w w7 := Kept.trans K6 k7
  have B0_7 := B0_6.kept k7 (Nat.ne_of_gt y1_BF)
  have B1_7 := B1_6.kept k7 (Nat.ne_of_gt y2_BF)
  have z7 := B1_7.lies
  clear c7_B0_1 K6 f6 B0_6 B1_6 k7
  have y3_BF : b < w7.heap.size := f7.lies
  have y3_B0 : w.heap.size < w7.heap.size := B0_7.lies
  have y3_B1 : w.heap.size + 1 < w7.heap.size := B1_7.lies
  go_wp2_with (refine store_stop rfl (by kernel_rfl) ?_)
  refine Stop.mk (store_row (l' := row 7 (fun _ => 0)) rfl rfl rfl rfl (Arr_at _ _ (row 7 (fun _ => 0)) _ (by simp)) (by simp only [row_len]) (by rw [row_len]; kernel_rfl) (row_one _ _) ?_)
  intro w8 B2_8 o8
  have K8 : Kept b w w8 := Kept.off (K7.al _) o8 (by omega)
  have BF_8 := (f7.alloc _).off o8 (Nat.ne_of_lt y3_BF)
  have B0_8 := (B0_7.alloc _).off o8 (Nat.ne_of_lt y3_B0)
  have B1_8 := (B1_7.alloc _).off o8 (Nat.ne_of_lt y3_B1)
  have z8_B2 := B2_8.lies
  have z8_BF := BF_8.lies
  have z8_B0 := B0_8.lies
  have z8_B1 := B1_8.lies
  clear K7 f7 B0_7 B1_7 o8
  have y4_BF : b < w8.heap.size := BF_8.lies
  have y4_B0 : w.heap.size < w8.heap.size := B0_8.lies
  have y4_B1 : w.heap.size + 1 < w8.heap.size := B1_8.lies
  have y4_B2 : w7.heap.size < w8.heap.size := B2_8.lies
  go_wp2_with (refine store_stop rfl (by kernel_rfl) ?_)
  refine Stop.mk (store_row (l' := row 7 (fun _ => 0)) rfl rfl rfl rfl (Arr_at _ _ (row 7 (fun _ => 0)) _ (by simp)) (by simp only [row_len]) (by rw [row_len]; kernel_rfl) (row_one _ _) ?_)
  intro w9 B3_9 o9
  have K9 : Kept b w w9 := Kept.off (K8.al _) o9 (by omega)
  have BF_9 := (BF_8.alloc _).off o9 (Nat.ne_of_lt y4_BF)
  have B0_9 := (B0_8.alloc _).off o9 (Nat.ne_of_lt y4_B0)
  have B1_9 := (B1_8.alloc _).off o9 (Nat.ne_of_lt y4_B1)
  have B2_9 := (B2_8.alloc _).off o9 (Nat.ne_of_lt y4_B2)
  have z9_B3 := B3_9.lies
  have z9_BF := BF_9.lies
  have z9_B0 := B0_9.lies
  have z9_B1 := B1_9.lies
  have z9_B2 := B2_9.lies
  clear K8 BF_8 B0_8 B1_8 B2_8 o9
  have c10_B2_0 : w9.cell? ⟨w7.heap.size, 0, none⟩ = some (.int .i64 ((fun _ => 0) 0)) := row_c B2_9 0 (by omega)
  have g10_B2_1 := row_f B2_9 0 (by omega)
  go_wp2_with fail
  clear c10_B2_0 g10_B2_1
  obtain ⟨J2, hJ2⟩ : ∃ J : Nat → Act → World → Prop, Hid (J = fun j a Wl2 => ∀ G_ : Prop, (∀ (t2_1 t2_3 t2_4 t2_5 t2_8 t2_16 t2_17 t2_18 t2_19 t2_20 t2_21 t2_22 t2_23 t2_24 t2_25 t2_26 t2_27 t2_28 t2_29 t2_30 t2_31 t2_32 t2_33 t2_34 t2_35 t2_36 t2_37 t2_38 t2_39 t2_40 t2_41 t2_42 t2_43 t2_44 t2_45 t2_46 t2_47 t2_48 t2_49 t2_50 t2_51 t2_52 t2_53 t2_54 t2_55 t2_56 t2_57 t2_58 t2_59 t2_60 t2_61 t2_62 t2_63 t2_64 t2_65 t2_66 t2_67 t2_68 t2_69 t2_70 t2_71 t2_72 t2_73 t2_74 t2_75 t2_76 t2_77 t2_78 t2_79 t2_80 t2_81 t2_82 t2_83 t2_84 t2_85 t2_86 t2_87 t2_88 t2_89 t2_90 t2_91 t2_92 t2_93 t2_94 t2_95 t2_96 t2_97 t2_98 t2_99 t2_100 t2_101 t2_102 t2_103 t2_104 t2_105 t2_106 t2_107 t2_108 t2_109 t2_110 t2_111 t2_112 t2_113 t2_114 t2_115 t2_116 t2_117 t2_118 t2_119 t2_120 t2_121 t2_122 t2_123 t2_124 t2_125 t2_126 t2_127 t2_128 t2_129 t2_130 t2_131 t2_132 t2_133 t2_134 t2_135 t2_136 t2_137 t2_138 t2_139 t2_140 t2_141 t2_142 t2_143 t2_144 t2_145 t2_146 t2_147 t2_148 t2_149 t2_150 t2_151 t2_152 t2_153 t2_154 t2_155 t2_156 t2_157 t2_158 t2_159 t2_160 t2_161 t2_162 t2_163 t2_164 t2_165 t2_166 t2_167 t2_168 t2_169 t2_170 t2_171 t2_172 t2_173 t2_174 t2_175 t2_176 t2_177 t2_178 t2_179 t2_180 t2_181 t2_182 t2_183 t2_184 t2_185 t2_186 t2_187 t2_188 t2_189 t2_190 t2_191 t2_192 t2_193 t2_194 t2_195 t2_196 t2_197 t2_198 t2_199 t2_200 t2_201 t2_202 t2_203 t2_204 t2_205 t2_206 t2_207 t2_208 t2_209 t2_210 t2_211 t2_212 t2_213 t2_214 t2_215 t2_216 t2_217 t2_218 t2_219 t2_220 t2_221 t2_222 t2_223 t2_224 t2_225 t2_226 t2_227 t2_228 t2_229 t2_230 t2_231 t2_232 t2_233 t2_234 t2_235 t2_236 t2_237 t2_238 t2_239 t2_240 t2_241 t2_242 t2_243 t2_244 t2_245 t2_246 t2_247 t2_248 t2_249 t2_250 t2_251 t2_252 t2_253 t2_254 t2_255 t2_256 t2_257 t2_258 t2_259 t2_260 t2_261 t2_262 t2_263 t2_264 t2_265 t2_266 t2_267 t2_268 t2_269 t2_270 t2_271 t2_272 t2_273 t2_274 t2_275 t2_276 t2_277 t2_278 t2_279 t2_280 t2_281 t2_282 t2_283 t2_284 t2_285 t2_286 : Value), a = { tmps := #[.pointer (some ⟨b, 0, none⟩), t2_1, .int .i64 t, t2_3, t2_4, t2_5, .pointer (some ⟨w.heap.size + 1, 0, none⟩), .int .i64 r, t2_8, .int .i64 E.c, .int .i64 E.s, .int .i64 E.u, .int .i64 E.v, .pointer (some ⟨w7.heap.size, 0, none⟩), .pointer (some ⟨w8.heap.size, 0, none⟩), .int .i64 ((j : Int) + 1), t2_16, t2_17, t2_18, t2_19, t2_20, t2_21, t2_22, t2_23, t2_24, t2_25, t2_26, t2_27, t2_28, t2_29, t2_30, t2_31, t2_32, t2_33, t2_34, t2_35, t2_36, t2_37, t2_38, t2_39, t2_40, t2_41, t2_42, t2_43, t2_44, t2_45, t2_46, t2_47, t2_48, t2_49, t2_50, t2_51, t2_52, t2_53, t2_54, t2_55, t2_56, t2_57, t2_58, t2_59, t2_60, t2_61, t2_62, t2_63, t2_64, t2_65, t2_66, t2_67, t2_68, t2_69, t2_70, t2_71, t2_72, t2_73, t2_74, t2_75, t2_76, t2_77, t2_78, t2_79, t2_80, t2_81, t2_82, t2_83, t2_84, t2_85, t2_86, t2_87, t2_88, t2_89, t2_90, t2_91, t2_92, t2_93, t2_94, t2_95, t2_96, t2_97, t2_98, t2_99, t2_100, t2_101, t2_102, t2_103, t2_104, t2_105, t2_106, t2_107, t2_108, t2_109, t2_110, t2_111, t2_112, t2_113, t2_114, t2_115, t2_116, t2_117, t2_118, t2_119, t2_120, t2_121, t2_122, t2_123, t2_124, t2_125, t2_126, t2_127, t2_128, t2_129, t2_130, t2_131, t2_132, t2_133, t2_134, t2_135, t2_136, t2_137, t2_138, t2_139, t2_140, t2_141, t2_142, t2_143, t2_144, t2_145, t2_146, t2_147, t2_148, t2_149, t2_150, t2_151, t2_152, t2_153, t2_154, t2_155, t2_156, t2_157, t2_158, t2_159, t2_160, t2_161, t2_162, t2_163, t2_164, t2_165, t2_166, t2_167, t2_168, t2_169, t2_170, t2_171, t2_172, t2_173, t2_174, t2_175, t2_176, t2_177, t2_178, t2_179, t2_180, t2_181, t2_182, t2_183, t2_184, t2_185, t2_186, t2_187, t2_188, t2_189, t2_190, t2_191, t2_192, t2_193, t2_194, t2_195, t2_196, t2_197, t2_198, t2_199, t2_200, t2_201, t2_202, t2_203, t2_204, t2_205, t2_206, t2_207, t2_208, t2_209, t2_210, t2_211, t2_212, t2_213, t2_214, t2_215, t2_216, t2_217, t2_218, t2_219, t2_220, t2_221, t2_222, t2_223, t2_224, t2_225, t2_226, t2_227, t2_228, t2_229, t2_230, t2_231, t2_232, t2_233, t2_234, t2_235, t2_236, t2_237, t2_238, t2_239, t2_240, t2_241, t2_242, t2_243, t2_244, t2_245, t2_246, t2_247, t2_248, t2_249, t2_250, t2_251, t2_252, t2_253, t2_254, t2_255, t2_256, t2_257, t2_258, t2_259, t2_260, t2_261, t2_262, t2_263, t2_264, t2_265, t2_266, t2_267, t2_268, t2_269, t2_270, t2_271, t2_272, t2_273, t2_274, t2_275, t2_276, t2_277, t2_278, t2_279, t2_280, t2_281, t2_282, t2_283, t2_284, t2_285, t2_286], defers := [] } → Kept b w Wl2 → Fl b false Wl2 → Arr w.heap.size [.int .i64 p.1, .int .i64 p.2.1, .int .i64 p.2.2] Wl2 → Arr (w.heap.size + 1) [.int .i64 0, .int .i64 0, .int .i64 0] Wl2 → Arr w7.heap.size (row 7 (cutF E.g j)) Wl2 → Arr w8.heap.size (row 7 (cutF (fun i => E.g (7 + i)) j)) Wl2 → G_) → G_) := ⟨_, rfl⟩
  refine rounds_up J2 6 ?_ ?_ ?_
  · rw [hJ2.out]
    intro G_ hG_
    exact hG_ _ _ _ _ _ _ _ _ _ _ _ _ _ _ _ _ _ _ _ _ _ _ _ _ _ _ _ _ _ _ _ _ _ _ _ _ _ _ _ _ _ _ _ _ _ _ _ _ _ _ _ _ _ _ _ _ _ _ _ _ _ _ _ _ _ _ _ _ _ _ _ _ _ _ _ _ _ _ _ _ _ _ _ _ _ _ _ _ _ _ _ _ _ _ _ _ _ _ _ _ _ _ _ _ _ _ _ _ _ _ _ _ _ _ _ _ _ _ _ _ _ _ _ _ _ _ _ _ _ _ _ _ _ _ _ _ _ _ _ _ _ _ _ _ _ _ _ _ _ _ _ _ _ _ _ _ _ _ _ _ _ _ _ _ _ _ _ _ _ _ _ _ _ _ _ _ _ _ _ _ _ _ _ _ _ _ _ _ _ _ _ _ _ _ _ _ _ _ _ _ _ _ _ _ _ _ _ _ _ _ _ _ _ _ _ _ _ _ _ _ _ _ _ _ _ _ _ _ _ _ _ _ _ _ _ _ _ _ _ _ _ _ _ _ _ _ _ _ _ _ _ _ _ _ _ _ _ _ _ _ _ _ _ _ _ _ _ _ _ _ _ _ _ _ _ _ rfl (K9.new _ _ (by omega) _) (BF_9.new w7.heap.size 0 (Nat.ne_of_lt y3_BF) (.int .i64 1099511627776)) (B0_9.new w7.heap.size 0 (Nat.ne_of_lt y3_B0) (.int .i64 1099511627776)) (B1_9.new w7.heap.size 0 (Nat.ne_of_lt y3_B1) (.int .i64 1099511627776)) (((row_put B2_9 0 (by omega) 1099511627776)).fn (cutF_start E.g E.g0)) (((B3_9.new w7.heap.size 0 (Nat.ne_of_gt y4_B2) (.int .i64 1099511627776))).fn (cutF_zero (fun i => E.g (7 + i)) E.g7))
  · intro j a Wl2 hj hI R hR
    rw [hJ2.out] at hI
    refine hI _ ?_
    clear hI
    intro t2_1 t2_3 t2_4 t2_5 t2_8 t2_16 t2_17 t2_18 t2_19 t2_20 t2_21 t2_22 t2_23 t2_24 t2_25 t2_26 t2_27 t2_28 t2_29 t2_30 t2_31 t2_32 t2_33 t2_34 t2_35 t2_36 t2_37 t2_38 t2_39 t2_40 t2_41 t2_42 t2_43 t2_44 t2_45 t2_46 t2_47 t2_48 t2_49 t2_50 t2_51 t2_52 t2_53 t2_54 t2_55 t2_56 t2_57 t2_58 t2_59 t2_60 t2_61 t2_62 t2_63 t2_64 t2_65 t2_66 t2_67 t2_68 t2_69 t2_70 t2_71 t2_72 t2_73 t2_74 t2_75 t2_76 t2_77 t2_78 t2_79 t2_80 t2_81 t2_82 t2_83 t2_84 t2_85 t2_86 t2_87 t2_88 t2_89 t2_90 t2_91 t2_92 t2_93 t2_94 t2_95 t2_96 t2_97 t2_98 t2_99 t2_100 t2_101 t2_102 t2_103 t2_104 t2_105 t2_106 t2_107 t2_108 t2_109 t2_110 t2_111 t2_112 t2_113 t2_114 t2_115 t2_116 t2_117 t2_118 t2_119 t2_120 t2_121 t2_122 t2_123 t2_124 t2_125 t2_126 t2_127 t2_128 t2_129 t2_130 t2_131 t2_132 t2_133 t2_134 t2_135 t2_136 t2_137 t2_138 t2_139 t2_140 t2_141 t2_142 t2_143 t2_144 t2_145 t2_146 t2_147 t2_148 t2_149 t2_150 t2_151 t2_152 t2_153 t2_154 t2_155 t2_156 t2_157 t2_158 t2_159 t2_160 t2_161 t2_162 t2_163 t2_164 t2_165 t2_166 t2_167 t2_168 t2_169 t2_170 t2_171 t2_172 t2_173 t2_174 t2_175 t2_176 t2_177 t2_178 t2_179 t2_180 t2_181 t2_182 t2_183 t2_184 t2_185 t2_186 t2_187 t2_188 t2_189 t2_190 t2_191 t2_192 t2_193 t2_194 t2_195 t2_196 t2_197 t2_198 t2_199 t2_200 t2_201 t2_202 t2_203 t2_204 t2_205 t2_206 t2_207 t2_208 t2_209 t2_210 t2_211 t2_212 t2_213 t2_214 t2_215 t2_216 t2_217 t2_218 t2_219 t2_220 t2_221 t2_222 t2_223 t2_224 t2_225 t2_226 t2_227 t2_228 t2_229 t2_230 t2_231 t2_232 t2_233 t2_234 t2_235 t2_236 t2_237 t2_238 t2_239 t2_240 t2_241 t2_242 t2_243 t2_244 t2_245 t2_246 t2_247 t2_248 t2_249 t2_250 t2_251 t2_252 t2_253 t2_254 t2_255 t2_256 t2_257 t2_258 t2_259 t2_260 t2_261 t2_262 t2_263 t2_264 t2_265 t2_266 t2_267 t2_268 t2_269 t2_270 t2_271 t2_272 t2_273 t2_274 t2_275 t2_276 t2_277 t2_278 t2_279 t2_280 t2_281 t2_282 t2_283 t2_284 t2_285 t2_286 ea Kl2 BF_l2 B0_l2 B1_l2 B2_l2 B3_l2
    subst ea
    have zl2_BF := BF_l2.lies
    have zl2_B0 := B0_l2.lies
    have zl2_B1 := B1_l2.lies
    have zl2_B2 := B2_l2.lies
    have zl2_B3 := B3_l2.lies
    obtain ⟨M, hM⟩ : ∃ M : Nat, j + 1 = M := ⟨_, rfl⟩
    have eM : (j : Int) + 1 = (M : Int) := by omega
    simp only [eM]
    have HM : Hid (j + 1 = M) := hM
    have hbM : j + 1 ≤ M := by omega
    have hcM : M ≤ j + 1 := by omega
    have e1 : (M : Int) - 1 = (j : Int) := by omega
    have T := Classical.choice (W_ j hj)
    have x1 : mulS false (cutF E.g j j) E.u = (T.v1, false) := by rw [cutF_at _ (Nat.le_refl _)]; exact T.h1
    have x2 : mulS false (cutF (fun i => E.g (7 + i)) j j) E.v = (T.v2, false) := by rw [cutF_at _ (Nat.le_refl _)]; exact T.h2
    have x4 : mulS false (cutF (fun i => E.g (7 + i)) j j) E.u = (T.v4, false) := by rw [cutF_at _ (Nat.le_refl _)]; exact T.h4
    have x5 : mulS false (updF (cutF E.g j) M (E.g (j + 1)) j) E.v = (T.v5, false) := by rw [show updF (cutF E.g j) M (E.g (j + 1)) j = cutF E.g j j from if_neg (by omega), cutF_at _ (Nat.le_refl _)]; exact T.h5
    clear hM eM
    go_wp2_with fail
    refine wp_region_held_drew (S := fun w' => NearR w7.heap.size 7 (cutF E.g j) M w' ∧ Arr w8.heap.size (row 7 (cutF (fun i => E.g (7 + i)) j)) w') (by kernel_rfl) ⟨(NearR.same B2_l2.drew), B3_l2.drew⟩ (fun hHeld => ?_)
    refine take_at (i := 0) (v := ?v1) rfl (by kernel_rfl) (by kernel_rfl) (by kernel_rfl) (fun _ _ _ h => h) (Or.inl ⟨by rfl, ?y1⟩) hHeld ?t1
    case y1 => (intro wx hSw; go_simp <;> with_reducible rfl)
    simp only [Act.put, List.setIfInBounds_toArray, List.set_cons_zero, List.set_cons_succ]
    refine take_at (i := 1) (v := ?v2) rfl (by kernel_rfl) (by kernel_rfl) (by kernel_rfl) (fun _ _ _ h => h) (Or.inl ⟨by rfl, ?y2⟩) hHeld ?t2
    case y2 => (intro wx hSw; go_simp <;> with_reducible rfl)
    simp only [Act.put, List.setIfInBounds_toArray, List.set_cons_zero, List.set_cons_succ]
    refine take_at (i := 2) (v := ?v3) rfl (by kernel_rfl) (by kernel_rfl) (by kernel_rfl) (fun _ _ _ h => h) (Or.inl ⟨by rfl, ?y3⟩) hHeld ?t3
    case y3 => (intro wx hSw; go_simp <;> with_reducible rfl)
    simp only [Act.put, List.setIfInBounds_toArray, List.set_cons_zero, List.set_cons_succ]
    refine take_at (i := 3) (v := ?v4) rfl (by kernel_rfl) (by kernel_rfl) (by kernel_rfl) (fun _ _ _ h => h) (Or.inl ⟨by rfl, ?y4⟩) hHeld ?t4
    case y4 => (intro wx hSw; go_simp <;> with_reducible rfl)
    simp only [Act.put, List.setIfInBounds_toArray, List.set_cons_zero, List.set_cons_succ]
    refine take_at (i := 4) (v := ?v5) rfl (by kernel_rfl) (by kernel_rfl) (by kernel_rfl) (fun _ _ _ h => h) (Or.inl ⟨by rfl, ?y5⟩) hHeld ?t5
    case y5 => (intro wx hSw; go_simp <;> with_reducible rfl)
    simp only [Act.put, List.setIfInBounds_toArray, List.set_cons_zero, List.set_cons_succ]
    rw [IntWalk.i64_in (j : Int) (by omega)]
    refine take_at (i := 5) (v := ?v6) rfl (by kernel_rfl) (by kernel_rfl) (by kernel_rfl) (fun _ _ _ h => h) (Or.inl ⟨by rfl, ?y6⟩) hHeld ?t6
    case y6 => (intro wx hSw; have hi0 : (j : Int) < 7 := (by omega); go_simp <;> with_reducible rfl)
    simp only [Act.put, List.setIfInBounds_toArray, List.set_cons_zero, List.set_cons_succ]
    refine take_at (i := 6) (v := ?v7) rfl (by kernel_rfl) (by kernel_rfl) (by kernel_rfl) (fun _ _ _ h => h) (Or.inl ⟨by rfl, ?y7⟩) hHeld ?t7
    case y7 => (intro wx hSw; have hc0 : wx.cell? ⟨w7.heap.size, j, none⟩ = some (.int .i64 ((cutF E.g j) j)) := near_c hSw.1 j (by omega) (by omega); go_simp <;> with_reducible rfl)
    simp only [Act.put, List.setIfInBounds_toArray, List.set_cons_zero, List.set_cons_succ]
    refine take_at (i := 7) (v := ?v8) rfl (by kernel_rfl) (by kernel_rfl) (by kernel_rfl) (fun _ _ _ h => h) (Or.inl ⟨by rfl, ?y8⟩) hHeld ?t8
    case y8 => (intro wx hSw; go_simp <;> with_reducible rfl)
    simp only [Act.put, List.setIfInBounds_toArray, List.set_cons_zero, List.set_cons_succ]
    refine take_at (i := 9) (v := ?v9) rfl (by kernel_rfl) (by kernel_rfl) (by kernel_rfl) (fun _ _ _ h => h) (Or.inl ⟨by rfl, ?y9⟩) hHeld ?t9
    case y9 => (intro wx hSw; go_simp <;> with_reducible rfl)
    simp only [Act.put, List.setIfInBounds_toArray, List.set_cons_zero, List.set_cons_succ]
    refine take_at (i := 10) (v := ?v10) rfl (by kernel_rfl) (by kernel_rfl) (by kernel_rfl) (fun _ _ _ h => h) (Or.inl ⟨by rfl, ?y10⟩) hHeld ?t10
    case y10 => (intro wx hSw; go_simp <;> with_reducible rfl)
    simp only [Act.put, List.setIfInBounds_toArray, List.set_cons_zero, List.set_cons_succ]
    refine take_at (i := 11) (v := ?v11) rfl (by kernel_rfl) (by kernel_rfl) (by kernel_rfl) (fun _ _ _ h => h) (Or.inl ⟨by rfl, ?y11⟩) hHeld ?t11
    case y11 => (intro wx hSw; go_simp <;> with_reducible rfl)
    simp only [Act.put, List.setIfInBounds_toArray, List.set_cons_zero, List.set_cons_succ]
    rw [IntWalk.i64_in (j : Int) (by omega)]
    refine take_at (i := 12) (v := ?v12) rfl (by kernel_rfl) (by kernel_rfl) (by kernel_rfl) (fun _ _ _ h => h) (Or.inl ⟨by rfl, ?y12⟩) hHeld ?t12
    case y12 => (intro wx hSw; have hi0 : (j : Int) < 7 := (by omega); go_simp <;> with_reducible rfl)
    simp only [Act.put, List.setIfInBounds_toArray, List.set_cons_zero, List.set_cons_succ]
    refine take_at (i := 13) (v := ?v13) rfl (by kernel_rfl) (by kernel_rfl) (by kernel_rfl) (fun _ _ _ h => h) (Or.inl ⟨by rfl, ?y13⟩) hHeld ?t13
    case y13 => (intro wx hSw; have hc0 : wx.cell? ⟨w8.heap.size, j, none⟩ = some (.int .i64 ((cutF (fun i => E.g (7 + i)) j) j)) := row_c hSw.2 j (by omega); go_simp <;> with_reducible rfl)
    simp only [Act.put, List.setIfInBounds_toArray, List.set_cons_zero, List.set_cons_succ]
    refine take_at (i := 14) (v := ?v14) rfl (by kernel_rfl) (by kernel_rfl) (by kernel_rfl) (fun _ _ _ h => h) (Or.inl ⟨by rfl, ?y14⟩) hHeld ?t14
    case y14 => (intro wx hSw; go_simp <;> with_reducible rfl)
    simp only [Act.put, List.setIfInBounds_toArray, List.set_cons_zero, List.set_cons_succ]
    refine call_at (i := 8) (by kernel_rfl) rfl (fun K hK => ?_)
    go_simp
    refine (rMul_any b false ((cutF E.g j) j) E.u _ BF_l2.drew).mono ?_
    rintro e w10 ⟨rfl, f10, k10⟩
    rw [x1] at f10 ⊢
    dsimp only at f10 ⊢
    have K10 : Kept b w w10 := Kept.trans Kl2.drew k10
    have B0_10 := B0_l2.drew.kept k10 (Nat.ne_of_gt y1_BF)
    have B1_10 := B1_l2.drew.kept k10 (Nat.ne_of_gt y2_BF)
    have B2_10 := B2_l2.drew.kept k10 (Nat.ne_of_gt y3_BF)
    have B3_10 := B3_l2.drew.kept k10 (Nat.ne_of_gt y4_BF)
    have z10 := B3_10.lies
    clear hHeld
    refine hK.out _ _ ⟨(NearR.same B2_10), B3_10⟩ (fun hHeld => ?_)
    clear hK K BF_l2 B0_l2 B1_l2 B2_l2 B3_l2 k10
    refine call_at (i := 15) (by kernel_rfl) rfl (fun K hK => ?_)
    go_simp
    refine (rMul_any b false ((cutF (fun i => E.g (7 + i)) j) j) E.v _ f10).mono ?_
    rintro e w11 ⟨rfl, f11, k11⟩
    rw [x2] at f11 ⊢
    dsimp only at f11 ⊢
    have K11 : Kept b w w11 := Kept.trans K10 k11
    have B0_11 := B0_10.kept k11 (Nat.ne_of_gt y1_BF)
    have B1_11 := B1_10.kept k11 (Nat.ne_of_gt y2_BF)
    have B2_11 := B2_10.kept k11 (Nat.ne_of_gt y3_BF)
    have B3_11 := B3_10.kept k11 (Nat.ne_of_gt y4_BF)
    have z11 := B3_11.lies
    clear hHeld
    refine hK.out _ _ ⟨(NearR.same B2_11), B3_11⟩ (fun hHeld => ?_)
    clear hK K K10 f10 B0_10 B1_10 B2_10 B3_10 k11
    refine call_at (i := 16) (by kernel_rfl) rfl (fun K hK => ?_)
    go_simp
    refine (rSub_any b false T.v1 T.v2 _ f11).mono ?_
    rintro e w12 ⟨rfl, f12, k12⟩
    rw [T.h3] at f12 ⊢
    dsimp only at f12 ⊢
    have K12 : Kept b w w12 := Kept.trans K11 k12
    have B0_12 := B0_11.kept k12 (Nat.ne_of_gt y1_BF)
    have B1_12 := B1_11.kept k12 (Nat.ne_of_gt y2_BF)
    have B2_12 := B2_11.kept k12 (Nat.ne_of_gt y3_BF)
    have B3_12 := B3_11.kept k12 (Nat.ne_of_gt y4_BF)
    have z12 := B3_12.lies
    clear hHeld
    refine hK.out _ _ ⟨(NearR.same B2_12), B3_12⟩ (fun hHeld => ?_)
    clear hK K K11 f11 B0_11 B1_11 B2_11 B3_11 k12
    refine take_at (i := 17) (v := ?v15) rfl (by kernel_rfl) (by kernel_rfl) (by kernel_rfl) (fun _ _ _ h => h) (Or.inl ⟨by rfl, ?y15⟩) hHeld ?t15
    case y15 => (intro wx hSw; have hi0 : (M : Int) < 7 := (by omega); go_simp <;> with_reducible rfl)
    simp only [Act.put, List.setIfInBounds_toArray, List.set_cons_zero, List.set_cons_succ]
    refine call_at (i := 18) (by kernel_rfl) rfl (fun K hK => ?_)
    have c12_B2_0 : w12.cell? ⟨w7.heap.size, M, none⟩ = some (.int .i64 ((cutF E.g j) M)) := row_c B2_12 M (by omega)
    have g12_B2_1 := row_f B2_12 M (by omega)
    go_simp
    clear hHeld
    refine hK.out _ _ ⟨(NearR.upd (row_put B2_12 M (by omega) (E.g (j + 1)))), (B3_12.new w7.heap.size M (Nat.ne_of_gt y4_B2) (.int .i64 (E.g (j + 1))))⟩ (fun hHeld => ?_)
    clear hK K c12_B2_0 g12_B2_1
    refine wpAnyH_done (by kernel_rfl) ?_ _
    clear hHeld
    go_wp2_with fail
    refine wp_region_held_drew (S := fun w' => NearR w8.heap.size 7 (cutF (fun i => E.g (7 + i)) j) M w' ∧ Arr w7.heap.size (row 7 (updF (cutF E.g j) M (E.g (j + 1)))) w') (by kernel_rfl) ⟨(NearR.same (B3_12.new w7.heap.size M (Nat.ne_of_gt y4_B2) (.int .i64 (E.g (j + 1)))).drew), (row_put B2_12 M (by omega) (E.g (j + 1))).drew⟩ (fun hHeld => ?_)
    refine take_at (i := 0) (v := ?v16) rfl (by kernel_rfl) (by kernel_rfl) (by kernel_rfl) (fun _ _ _ h => h) (Or.inl ⟨by rfl, ?y16⟩) hHeld ?t16
    case y16 => (intro wx hSw; go_simp <;> with_reducible rfl)
    simp only [Act.put, List.setIfInBounds_toArray, List.set_cons_zero, List.set_cons_succ]
    refine take_at (i := 1) (v := ?v17) rfl (by kernel_rfl) (by kernel_rfl) (by kernel_rfl) (fun _ _ _ h => h) (Or.inl ⟨by rfl, ?y17⟩) hHeld ?t17
    case y17 => (intro wx hSw; go_simp <;> with_reducible rfl)
    simp only [Act.put, List.setIfInBounds_toArray, List.set_cons_zero, List.set_cons_succ]
    refine take_at (i := 2) (v := ?v18) rfl (by kernel_rfl) (by kernel_rfl) (by kernel_rfl) (fun _ _ _ h => h) (Or.inl ⟨by rfl, ?y18⟩) hHeld ?t18
    case y18 => (intro wx hSw; go_simp <;> with_reducible rfl)
    simp only [Act.put, List.setIfInBounds_toArray, List.set_cons_zero, List.set_cons_succ]
    refine take_at (i := 3) (v := ?v19) rfl (by kernel_rfl) (by kernel_rfl) (by kernel_rfl) (fun _ _ _ h => h) (Or.inl ⟨by rfl, ?y19⟩) hHeld ?t19
    case y19 => (intro wx hSw; go_simp <;> with_reducible rfl)
    simp only [Act.put, List.setIfInBounds_toArray, List.set_cons_zero, List.set_cons_succ]
    refine take_at (i := 4) (v := ?v20) rfl (by kernel_rfl) (by kernel_rfl) (by kernel_rfl) (fun _ _ _ h => h) (Or.inl ⟨by rfl, ?y20⟩) hHeld ?t20
    case y20 => (intro wx hSw; go_simp <;> with_reducible rfl)
    simp only [Act.put, List.setIfInBounds_toArray, List.set_cons_zero, List.set_cons_succ]
    rw [IntWalk.i64_in (j : Int) (by omega)]
    refine take_at (i := 5) (v := ?v21) rfl (by kernel_rfl) (by kernel_rfl) (by kernel_rfl) (fun _ _ _ h => h) (Or.inl ⟨by rfl, ?y21⟩) hHeld ?t21
    case y21 => (intro wx hSw; have hi0 : (j : Int) < 7 := (by omega); go_simp <;> with_reducible rfl)
    simp only [Act.put, List.setIfInBounds_toArray, List.set_cons_zero, List.set_cons_succ]
    refine take_at (i := 6) (v := ?v22) rfl (by kernel_rfl) (by kernel_rfl) (by kernel_rfl) (fun _ _ _ h => h) (Or.inl ⟨by rfl, ?y22⟩) hHeld ?t22
    case y22 => (intro wx hSw; have hc0 : wx.cell? ⟨w8.heap.size, j, none⟩ = some (.int .i64 ((cutF (fun i => E.g (7 + i)) j) j)) := near_c hSw.1 j (by omega) (by omega); go_simp <;> with_reducible rfl)
    simp only [Act.put, List.setIfInBounds_toArray, List.set_cons_zero, List.set_cons_succ]
    refine take_at (i := 7) (v := ?v23) rfl (by kernel_rfl) (by kernel_rfl) (by kernel_rfl) (fun _ _ _ h => h) (Or.inl ⟨by rfl, ?y23⟩) hHeld ?t23
    case y23 => (intro wx hSw; go_simp <;> with_reducible rfl)
    simp only [Act.put, List.setIfInBounds_toArray, List.set_cons_zero, List.set_cons_succ]
    refine take_at (i := 9) (v := ?v24) rfl (by kernel_rfl) (by kernel_rfl) (by kernel_rfl) (fun _ _ _ h => h) (Or.inl ⟨by rfl, ?y24⟩) hHeld ?t24
    case y24 => (intro wx hSw; go_simp <;> with_reducible rfl)
    simp only [Act.put, List.setIfInBounds_toArray, List.set_cons_zero, List.set_cons_succ]
    refine take_at (i := 10) (v := ?v25) rfl (by kernel_rfl) (by kernel_rfl) (by kernel_rfl) (fun _ _ _ h => h) (Or.inl ⟨by rfl, ?y25⟩) hHeld ?t25
    case y25 => (intro wx hSw; go_simp <;> with_reducible rfl)
    simp only [Act.put, List.setIfInBounds_toArray, List.set_cons_zero, List.set_cons_succ]
    refine take_at (i := 11) (v := ?v26) rfl (by kernel_rfl) (by kernel_rfl) (by kernel_rfl) (fun _ _ _ h => h) (Or.inl ⟨by rfl, ?y26⟩) hHeld ?t26
    case y26 => (intro wx hSw; go_simp <;> with_reducible rfl)
    simp only [Act.put, List.setIfInBounds_toArray, List.set_cons_zero, List.set_cons_succ]
    rw [IntWalk.i64_in (j : Int) (by omega)]
    refine take_at (i := 12) (v := ?v27) rfl (by kernel_rfl) (by kernel_rfl) (by kernel_rfl) (fun _ _ _ h => h) (Or.inl ⟨by rfl, ?y27⟩) hHeld ?t27
    case y27 => (intro wx hSw; have hi0 : (j : Int) < 7 := (by omega); go_simp <;> with_reducible rfl)
    simp only [Act.put, List.setIfInBounds_toArray, List.set_cons_zero, List.set_cons_succ]
    refine take_at (i := 13) (v := ?v28) rfl (by kernel_rfl) (by kernel_rfl) (by kernel_rfl) (fun _ _ _ h => h) (Or.inl ⟨by rfl, ?y28⟩) hHeld ?t28
    case y28 => (intro wx hSw; have hc0 : wx.cell? ⟨w7.heap.size, j, none⟩ = some (.int .i64 ((updF (cutF E.g j) M (E.g (j + 1))) j)) := row_c hSw.2 j (by omega); go_simp <;> with_reducible rfl)
    simp only [Act.put, List.setIfInBounds_toArray, List.set_cons_zero, List.set_cons_succ]
    refine take_at (i := 14) (v := ?v29) rfl (by kernel_rfl) (by kernel_rfl) (by kernel_rfl) (fun _ _ _ h => h) (Or.inl ⟨by rfl, ?y29⟩) hHeld ?t29
    case y29 => (intro wx hSw; go_simp <;> with_reducible rfl)
    simp only [Act.put, List.setIfInBounds_toArray, List.set_cons_zero, List.set_cons_succ]
    refine call_at (i := 8) (by kernel_rfl) rfl (fun K hK => ?_)
    go_simp
    refine (rMul_any b false ((cutF (fun i => E.g (7 + i)) j) j) E.u _ (f12.new w7.heap.size M (Nat.ne_of_lt y3_BF) (.int .i64 (E.g (j + 1)))).drew).mono ?_
    rintro e w13 ⟨rfl, f13, k13⟩
    rw [x4] at f13 ⊢
    dsimp only at f13 ⊢
    have K13 : Kept b w w13 := Kept.trans (K12.new _ _ (by omega) _).drew k13
    have B0_13 := (B0_12.new w7.heap.size M (Nat.ne_of_lt y3_B0) (.int .i64 (E.g (j + 1)))).drew.kept k13 (Nat.ne_of_gt y1_BF)
    have B1_13 := (B1_12.new w7.heap.size M (Nat.ne_of_lt y3_B1) (.int .i64 (E.g (j + 1)))).drew.kept k13 (Nat.ne_of_gt y2_BF)
    have B2_13 := (row_put B2_12 M (by omega) (E.g (j + 1))).drew.kept k13 (Nat.ne_of_gt y3_BF)
    have B3_13 := (B3_12.new w7.heap.size M (Nat.ne_of_gt y4_B2) (.int .i64 (E.g (j + 1)))).drew.kept k13 (Nat.ne_of_gt y4_BF)
    have z13 := B3_13.lies
    clear hHeld
    refine hK.out _ _ ⟨(NearR.same B3_13), B2_13⟩ (fun hHeld => ?_)
    clear hK K K12 f12 B0_12 B1_12 B2_12 B3_12 k13
    refine call_at (i := 15) (by kernel_rfl) rfl (fun K hK => ?_)
    go_simp
    refine (rMul_any b false ((updF (cutF E.g j) M (E.g (j + 1))) j) E.v _ f13).mono ?_
    rintro e w14 ⟨rfl, f14, k14⟩
    rw [x5] at f14 ⊢
    dsimp only at f14 ⊢
    have K14 : Kept b w w14 := Kept.trans K13 k14
    have B0_14 := B0_13.kept k14 (Nat.ne_of_gt y1_BF)
    have B1_14 := B1_13.kept k14 (Nat.ne_of_gt y2_BF)
    have B2_14 := B2_13.kept k14 (Nat.ne_of_gt y3_BF)
    have B3_14 := B3_13.kept k14 (Nat.ne_of_gt y4_BF)
    have z14 := B3_14.lies
    clear hHeld
    refine hK.out _ _ ⟨(NearR.same B3_14), B2_14⟩ (fun hHeld => ?_)
    clear hK K K13 f13 B0_13 B1_13 B2_13 B3_13 k14
    refine call_at (i := 16) (by kernel_rfl) rfl (fun K hK => ?_)
    go_simp
    refine (rAdd_any b false T.v4 T.v5 _ f14).mono ?_
    rintro e w15 ⟨rfl, f15, k15⟩
    rw [T.h6] at f15 ⊢
    dsimp only at f15 ⊢
    have K15 : Kept b w w15 := Kept.trans K14 k15
    have B0_15 := B0_14.kept k15 (Nat.ne_of_gt y1_BF)
    have B1_15 := B1_14.kept k15 (Nat.ne_of_gt y2_BF)
    have B2_15 := B2_14.kept k15 (Nat.ne_of_gt y3_BF)
    have B3_15 := B3_14.kept k15 (Nat.ne_of_gt y4_BF)
    have z15 := B3_15.lies
    clear hHeld
    refine hK.out _ _ ⟨(NearR.same B3_15), B2_15⟩ (fun hHeld => ?_)
    clear hK K K14 f14 B0_14 B1_14 B2_14 B3_14 k15
    refine take_at (i := 17) (v := ?v30) rfl (by kernel_rfl) (by kernel_rfl) (by kernel_rfl) (fun _ _ _ h => h) (Or.inl ⟨by rfl, ?y30⟩) hHeld ?t30
    case y30 => (intro wx hSw; have hi0 : (M : Int) < 7 := (by omega); go_simp <;> with_reducible rfl)
    simp only [Act.put, List.setIfInBounds_toArray, List.set_cons_zero, List.set_cons_succ]
    refine call_at (i := 18) (by kernel_rfl) rfl (fun K hK => ?_)
    have c14_B3_0 : w15.cell? ⟨w8.heap.size, M, none⟩ = some (.int .i64 ((cutF (fun i => E.g (7 + i)) j) M)) := row_c B3_15 M (by omega)
    have g14_B3_1 := row_f B3_15 M (by omega)
    go_simp
    clear hHeld
    refine hK.out _ _ ⟨(NearR.upd (row_put B3_15 M (by omega) (E.g (8 + j)))), (B2_15.new w8.heap.size M (Nat.ne_of_lt y4_B2) (.int .i64 (E.g (8 + j))))⟩ (fun hHeld => ?_)
    clear hK K c14_B3_0 g14_B3_1
    refine wpAnyH_done (by kernel_rfl) ?_ _
    clear hHeld
    go_wp2_with fail
    have Q_BF := (f15.new w8.heap.size M (Nat.ne_of_lt y4_BF) (.int .i64 (E.g (8 + j))))
    have Q_B0 := (B0_15.new w8.heap.size M (Nat.ne_of_lt y4_B0) (.int .i64 (E.g (8 + j))))
    have Q_B1 := (B1_15.new w8.heap.size M (Nat.ne_of_lt y4_B1) (.int .i64 (E.g (8 + j))))
    have Q_B2 := (B2_15.new w8.heap.size M (Nat.ne_of_lt y4_B2) (.int .i64 (E.g (8 + j))))
    have Q_B3 := (row_put B3_15 M (by omega) (E.g (8 + j)))
    have Q_base := (K15.new w8.heap.size M (by omega) (.int .i64 (E.g (8 + j))))
    obtain rfl := HM.out
    rw [hJ2.out]
    intro G_ hG_
    exact hG_ _ _ _ _ _ _ _ _ _ _ _ _ _ _ _ _ _ _ _ _ _ _ _ _ _ _ _ _ _ _ _ _ _ _ _ _ _ _ _ _ _ _ _ _ _ _ _ _ _ _ _ _ _ _ _ _ _ _ _ _ _ _ _ _ _ _ _ _ _ _ _ _ _ _ _ _ _ _ _ _ _ _ _ _ _ _ _ _ _ _ _ _ _ _ _ _ _ _ _ _ _ _ _ _ _ _ _ _ _ _ _ _ _ _ _ _ _ _ _ _ _ _ _ _ _ _ _ _ _ _ _ _ _ _ _ _ _ _ _ _ _ _ _ _ _ _ _ _ _ _ _ _ _ _ _ _ _ _ _ _ _ _ _ _ _ _ _ _ _ _ _ _ _ _ _ _ _ _ _ _ _ _ _ _ _ _ _ _ _ _ _ _ _ _ _ _ _ _ _ _ _ _ _ _ _ _ _ _ _ _ _ _ _ _ _ _ _ _ _ _ _ _ _ _ _ _ _ _ _ _ _ _ _ _ _ _ _ _ _ _ _ _ _ _ _ _ _ _ _ _ _ _ _ _ _ _ _ _ _ _ _ _ _ _ _ _ _ _ _ _ _ _ _ _ _ _ rfl Q_base Q_BF Q_B0 Q_B1 ((Q_B2).fn (cutF_put E.g j)) ((Q_B3).fn (cutF_next E.g j))
  · intro a Wl2 hI R
    rw [hJ2.out] at hI
    refine hI _ ?_
    clear hI hJ2
    intro t2_1 t2_3 t2_4 t2_5 t2_8 t2_16 t2_17 t2_18 t2_19 t2_20 t2_21 t2_22 t2_23 t2_24 t2_25 t2_26 t2_27 t2_28 t2_29 t2_30 t2_31 t2_32 t2_33 t2_34 t2_35 t2_36 t2_37 t2_38 t2_39 t2_40 t2_41 t2_42 t2_43 t2_44 t2_45 t2_46 t2_47 t2_48 t2_49 t2_50 t2_51 t2_52 t2_53 t2_54 t2_55 t2_56 t2_57 t2_58 t2_59 t2_60 t2_61 t2_62 t2_63 t2_64 t2_65 t2_66 t2_67 t2_68 t2_69 t2_70 t2_71 t2_72 t2_73 t2_74 t2_75 t2_76 t2_77 t2_78 t2_79 t2_80 t2_81 t2_82 t2_83 t2_84 t2_85 t2_86 t2_87 t2_88 t2_89 t2_90 t2_91 t2_92 t2_93 t2_94 t2_95 t2_96 t2_97 t2_98 t2_99 t2_100 t2_101 t2_102 t2_103 t2_104 t2_105 t2_106 t2_107 t2_108 t2_109 t2_110 t2_111 t2_112 t2_113 t2_114 t2_115 t2_116 t2_117 t2_118 t2_119 t2_120 t2_121 t2_122 t2_123 t2_124 t2_125 t2_126 t2_127 t2_128 t2_129 t2_130 t2_131 t2_132 t2_133 t2_134 t2_135 t2_136 t2_137 t2_138 t2_139 t2_140 t2_141 t2_142 t2_143 t2_144 t2_145 t2_146 t2_147 t2_148 t2_149 t2_150 t2_151 t2_152 t2_153 t2_154 t2_155 t2_156 t2_157 t2_158 t2_159 t2_160 t2_161 t2_162 t2_163 t2_164 t2_165 t2_166 t2_167 t2_168 t2_169 t2_170 t2_171 t2_172 t2_173 t2_174 t2_175 t2_176 t2_177 t2_178 t2_179 t2_180 t2_181 t2_182 t2_183 t2_184 t2_185 t2_186 t2_187 t2_188 t2_189 t2_190 t2_191 t2_192 t2_193 t2_194 t2_195 t2_196 t2_197 t2_198 t2_199 t2_200 t2_201 t2_202 t2_203 t2_204 t2_205 t2_206 t2_207 t2_208 t2_209 t2_210 t2_211 t2_212 t2_213 t2_214 t2_215 t2_216 t2_217 t2_218 t2_219 t2_220 t2_221 t2_222 t2_223 t2_224 t2_225 t2_226 t2_227 t2_228 t2_229 t2_230 t2_231 t2_232 t2_233 t2_234 t2_235 t2_236 t2_237 t2_238 t2_239 t2_240 t2_241 t2_242 t2_243 t2_244 t2_245 t2_246 t2_247 t2_248 t2_249 t2_250 t2_251 t2_252 t2_253 t2_254 t2_255 t2_256 t2_257 t2_258 t2_259 t2_260 t2_261 t2_262 t2_263 t2_264 t2_265 t2_266 t2_267 t2_268 t2_269 t2_270 t2_271 t2_272 t2_273 t2_274 t2_275 t2_276 t2_277 t2_278 t2_279 t2_280 t2_281 t2_282 t2_283 t2_284 t2_285 t2_286 ea Kl2 BF_l2 B0_l2 B1_l2 B2_l2 B3_l2
    subst ea
    have zl2_BF := BF_l2.lies
    have zl2_B0 := B0_l2.lies
    have zl2_B1 := B1_l2.lies
    have zl2_B2 := B2_l2.lies
    have zl2_B3 := B3_l2.lies
    go_wp2_with fail
    refine (leg_any b E.c E.s E.P E.D E.Q E.Z _ BF_l2).mono ?_
    rintro e w3010 ⟨rfl, f3010, k3010⟩
    have K3010 : Kept b w w3010 := Kept.trans Kl2 k3010
    have B0_3010 := B0_l2.kept k3010 (Nat.ne_of_gt y1_BF)
    have B1_3010 := B1_l2.kept k3010 (Nat.ne_of_gt y2_BF)
    have B2_3010 := B2_l2.kept k3010 (Nat.ne_of_gt y3_BF)
    have B3_3010 := B3_l2.kept k3010 (Nat.ne_of_gt y4_BF)
    have z3010_BF := f3010.lies
    have z3010_B0 := B0_3010.lies
    have z3010_B1 := B1_3010.lies
    have z3010_B2 := B2_3010.lies
    have z3010_B3 := B3_3010.lies
    clear BF_l2 B0_l2 B1_l2 B2_l2 B3_l2 k3010
    have y5_BF : b < w3010.heap.size := f3010.lies
    have y5_B0 : w.heap.size < w3010.heap.size := B0_3010.lies
    have y5_B1 : w.heap.size + 1 < w3010.heap.size := B1_3010.lies
    have y5_B2 : w7.heap.size < w3010.heap.size := B2_3010.lies
    have y5_B3 : w8.heap.size < w3010.heap.size := B3_3010.lies
    have y6_BF : b < w3010.heap.size + 1 := (Nat.lt_succ_of_lt f3010.lies)
    have y6_B0 : w.heap.size < w3010.heap.size + 1 := (Nat.lt_succ_of_lt B0_3010.lies)
    have y6_B1 : w.heap.size + 1 < w3010.heap.size + 1 := (Nat.lt_succ_of_lt B1_3010.lies)
    have y6_B2 : w7.heap.size < w3010.heap.size + 1 := (Nat.lt_succ_of_lt B2_3010.lies)
    have y6_B3 : w8.heap.size < w3010.heap.size + 1 := (Nat.lt_succ_of_lt B3_3010.lies)
    have y6_B4 : w3010.heap.size < w3010.heap.size + 1 := (Nat.lt_succ_self _)
    have y7_BF : b < w3010.heap.size + 1 + 1 := (Nat.lt_succ_of_lt (Nat.lt_succ_of_lt f3010.lies))
    have y7_B0 : w.heap.size < w3010.heap.size + 1 + 1 := (Nat.lt_succ_of_lt (Nat.lt_succ_of_lt B0_3010.lies))
    have y7_B1 : w.heap.size + 1 < w3010.heap.size + 1 + 1 := (Nat.lt_succ_of_lt (Nat.lt_succ_of_lt B1_3010.lies))
    have y7_B2 : w7.heap.size < w3010.heap.size + 1 + 1 := (Nat.lt_succ_of_lt (Nat.lt_succ_of_lt B2_3010.lies))
    have y7_B3 : w8.heap.size < w3010.heap.size + 1 + 1 := (Nat.lt_succ_of_lt (Nat.lt_succ_of_lt B3_3010.lies))
    have y7_B4 : w3010.heap.size < w3010.heap.size + 1 + 1 := (Nat.lt_succ_of_lt (Nat.lt_succ_self _))
    have y7_B5 : w3010.heap.size + 1 < w3010.heap.size + 1 + 1 := (Nat.lt_succ_self _)
    go_wp2_with (refine store_stop rfl (by kernel_rfl) ?_)
    refine Stop.mk (store_row (l' := row 49 (triN E.P 6 0)) rfl rfl rfl rfl (((Arr_at _ _ (row 49 (fun _ => 0)) _ (by simp)).alloc _).alloc _) (by simp only [row_len]) (by rw [row_len]; kernel_rfl) (row_one _ _) ?_)
    intro w3011 B4_3011 o3011
    have K3011 : Kept b w w3011 := Kept.off (((K3010.al _).al _).al _) o3011 (by omega)
    have BF_3011 := (((f3010.alloc _).alloc _).alloc _).off o3011 (Nat.ne_of_lt y5_BF)
    have B0_3011 := (((B0_3010.alloc _).alloc _).alloc _).off o3011 (Nat.ne_of_lt y5_B0)
    have B1_3011 := (((B1_3010.alloc _).alloc _).alloc _).off o3011 (Nat.ne_of_lt y5_B1)
    have B2_3011 := (((B2_3010.alloc _).alloc _).alloc _).off o3011 (Nat.ne_of_lt y5_B2)
    have B3_3011 := (((B3_3010.alloc _).alloc _).alloc _).off o3011 (Nat.ne_of_lt y5_B3)
    have B5_3011 := ((Arr_at _ _ (row 49 (fun _ => 0)) _ (by simp)).alloc _).off o3011 (Nat.ne_of_gt y6_B4)
    have B6_3011 := (Arr_at _ _ (row 49 (fun _ => 0)) _ (by simp)).off o3011 (Nat.ne_of_gt y7_B4)
    have z3011_B4 := B4_3011.lies
    have z3011_BF := BF_3011.lies
    have z3011_B0 := B0_3011.lies
    have z3011_B1 := B1_3011.lies
    have z3011_B2 := B2_3011.lies
    have z3011_B3 := B3_3011.lies
    have z3011_B5 := B5_3011.lies
    have z3011_B6 := B6_3011.lies
    clear K3010 f3010 B0_3010 B1_3010 B2_3010 B3_3010 o3011
    go_wp2_with (refine store_stop rfl (by kernel_rfl) ?_)
    refine Stop.mk (store_row (l' := row 49 (triN E.D 6 0)) rfl rfl rfl rfl B5_3011 (by simp only [row_len]) (by rw [row_len]; kernel_rfl) (row_one _ _) ?_)
    intro w3012 B5_3012 o3012
    have K3012 : Kept b w w3012 := Kept.off K3011 o3012 (by omega)
    have BF_3012 := BF_3011.off o3012 (Nat.ne_of_lt y6_BF)
    have B0_3012 := B0_3011.off o3012 (Nat.ne_of_lt y6_B0)
    have B1_3012 := B1_3011.off o3012 (Nat.ne_of_lt y6_B1)
    have B2_3012 := B2_3011.off o3012 (Nat.ne_of_lt y6_B2)
    have B3_3012 := B3_3011.off o3012 (Nat.ne_of_lt y6_B3)
    have B4_3012 := B4_3011.off o3012 (Nat.ne_of_lt y6_B4)
    have B6_3012 := B6_3011.off o3012 (Nat.ne_of_gt y7_B5)
    have z3012_B5 := B5_3012.lies
    have z3012_BF := BF_3012.lies
    have z3012_B0 := B0_3012.lies
    have z3012_B1 := B1_3012.lies
    have z3012_B2 := B2_3012.lies
    have z3012_B3 := B3_3012.lies
    have z3012_B4 := B4_3012.lies
    have z3012_B6 := B6_3012.lies
    clear K3011 B5_3011 BF_3011 B0_3011 B1_3011 B2_3011 B3_3011 B4_3011 B6_3011 o3012
    go_wp2_with (refine store_stop rfl (by kernel_rfl) ?_)
    refine Stop.mk (store_row (l' := row 49 (triN E.Q 6 0)) rfl rfl rfl rfl B6_3012 (by simp only [row_len]) (by rw [row_len]; kernel_rfl) (row_one _ _) ?_)
    intro w3013 B6_3013 o3013
    have K3013 : Kept b w w3013 := Kept.off K3012 o3013 (by omega)
    have BF_3013 := BF_3012.off o3013 (Nat.ne_of_lt y7_BF)
    have B0_3013 := B0_3012.off o3013 (Nat.ne_of_lt y7_B0)
    have B1_3013 := B1_3012.off o3013 (Nat.ne_of_lt y7_B1)
    have B2_3013 := B2_3012.off o3013 (Nat.ne_of_lt y7_B2)
    have B3_3013 := B3_3012.off o3013 (Nat.ne_of_lt y7_B3)
    have B4_3013 := B4_3012.off o3013 (Nat.ne_of_lt y7_B4)
    have B5_3013 := B5_3012.off o3013 (Nat.ne_of_lt y7_B5)
    have z3013_B6 := B6_3013.lies
    have z3013_BF := BF_3013.lies
    have z3013_B0 := B0_3013.lies
    have z3013_B1 := B1_3013.lies
    have z3013_B2 := B2_3013.lies
    have z3013_B3 := B3_3013.lies
    have z3013_B4 := B4_3013.lies
    have z3013_B5 := B5_3013.lies
    clear K3012 B6_3012 BF_3012 B0_3012 B1_3012 B2_3012 B3_3012 B4_3012 B5_3012 o3013
    go_wp2_with fail
    refine (rDiv_any b false 7005208482886 r _ BF_3013).mono ?_
    rintro e w3014 ⟨rfl, f3014, k3014⟩
    rw [E.hq] at f3014 ⊢
    dsimp only at f3014 ⊢
    have K3014 : Kept b w w3014 := Kept.trans K3013 k3014
    have B0_3014 := B0_3013.kept k3014 (Nat.ne_of_gt y1_BF)
    have B1_3014 := B1_3013.kept k3014 (Nat.ne_of_gt y2_BF)
    have B2_3014 := B2_3013.kept k3014 (Nat.ne_of_gt y3_BF)
    have B3_3014 := B3_3013.kept k3014 (Nat.ne_of_gt y4_BF)
    have B4_3014 := B4_3013.kept k3014 (Nat.ne_of_gt y5_BF)
    have B5_3014 := B5_3013.kept k3014 (Nat.ne_of_gt y6_BF)
    have B6_3014 := B6_3013.kept k3014 (Nat.ne_of_gt y7_BF)
    have z3014 := B6_3014.lies
    clear K3013 BF_3013 B0_3013 B1_3013 B2_3013 B3_3013 B4_3013 B5_3013 B6_3013 k3014
    go_wp2_with fail
    refine (rMul_any b false E.nr E.nr _ f3014).mono ?_
    rintro e w3015 ⟨rfl, f3015, k3015⟩
    rw [E.t0] at f3015 ⊢
    dsimp only at f3015 ⊢
    have K3015 : Kept b w w3015 := Kept.trans K3014 k3015
    have B0_3015 := B0_3014.kept k3015 (Nat.ne_of_gt y1_BF)
    have B1_3015 := B1_3014.kept k3015 (Nat.ne_of_gt y2_BF)
    have B2_3015 := B2_3014.kept k3015 (Nat.ne_of_gt y3_BF)
    have B3_3015 := B3_3014.kept k3015 (Nat.ne_of_gt y4_BF)
    have B4_3015 := B4_3014.kept k3015 (Nat.ne_of_gt y5_BF)
    have B5_3015 := B5_3014.kept k3015 (Nat.ne_of_gt y6_BF)
    have B6_3015 := B6_3014.kept k3015 (Nat.ne_of_gt y7_BF)
    have z3015 := B6_3015.lies
    clear K3014 f3014 B0_3014 B1_3014 B2_3014 B3_3014 B4_3014 B5_3014 B6_3014 k3015
    go_wp2_with fail
    obtain ⟨J0, hJ0⟩ : ∃ J : Nat → Act → World → Prop, Hid (J = fun k a Wl0 => ∀ G_ : Prop, (∀ (t0_1 t0_3 t0_4 t0_5 t0_7 t0_8 t0_15 t0_25 t0_26 t0_27 t0_28 t0_29 t0_30 t0_31 t0_32 t0_33 t0_34 t0_35 t0_36 t0_37 t0_38 t0_39 t0_40 t0_41 t0_42 t0_43 t0_44 t0_45 t0_46 t0_47 t0_48 t0_49 t0_50 t0_51 t0_52 t0_53 t0_54 t0_55 t0_56 t0_57 t0_58 t0_59 t0_60 t0_61 t0_62 t0_63 t0_64 t0_65 t0_66 t0_67 t0_68 t0_69 t0_70 t0_71 t0_72 t0_73 t0_74 t0_75 t0_76 t0_77 t0_78 t0_79 t0_80 t0_81 t0_82 t0_83 t0_84 t0_85 t0_86 t0_87 t0_88 t0_89 t0_90 t0_91 t0_92 t0_93 t0_94 t0_95 t0_96 t0_97 t0_98 t0_99 t0_100 t0_101 t0_102 t0_103 t0_104 t0_105 t0_106 t0_107 t0_108 t0_109 t0_110 t0_111 t0_112 t0_113 t0_114 t0_115 t0_116 t0_117 t0_118 t0_119 t0_120 t0_121 t0_122 t0_123 t0_124 t0_125 t0_126 t0_127 t0_128 t0_129 t0_130 t0_131 t0_132 t0_133 t0_134 t0_135 t0_136 t0_137 t0_138 t0_139 t0_140 t0_141 t0_142 t0_143 t0_144 t0_145 t0_146 t0_147 t0_148 t0_149 t0_150 t0_151 t0_152 t0_153 t0_154 t0_155 t0_156 t0_157 t0_158 t0_159 t0_160 t0_161 t0_162 t0_163 t0_164 t0_165 t0_166 t0_167 t0_168 t0_169 t0_170 t0_171 t0_172 t0_173 t0_174 t0_175 t0_176 t0_177 t0_178 t0_179 t0_180 t0_181 t0_182 t0_183 t0_184 t0_185 t0_186 t0_187 t0_188 t0_189 t0_190 t0_191 t0_192 t0_193 t0_194 t0_195 t0_196 t0_197 t0_198 t0_199 t0_200 t0_201 t0_202 t0_203 t0_204 t0_205 t0_206 t0_207 t0_208 t0_209 t0_210 t0_211 t0_212 t0_213 t0_214 t0_215 t0_216 t0_217 t0_218 t0_219 t0_220 t0_221 t0_222 t0_223 t0_224 t0_225 t0_226 t0_227 t0_228 t0_229 t0_230 t0_231 t0_232 t0_233 t0_234 t0_235 t0_236 t0_237 t0_238 t0_239 t0_240 t0_241 t0_242 t0_243 t0_244 t0_245 t0_246 t0_247 t0_248 t0_249 t0_250 t0_251 t0_252 t0_253 t0_254 t0_255 t0_256 t0_257 t0_258 t0_259 t0_260 t0_261 t0_262 t0_263 t0_264 t0_265 t0_266 t0_267 t0_268 t0_269 t0_270 t0_271 t0_272 t0_273 t0_274 t0_275 t0_276 t0_277 t0_278 t0_279 t0_280 t0_281 t0_282 t0_283 t0_284 t0_285 t0_286 : Value), a = { tmps := #[.pointer (some ⟨b, 0, none⟩), t0_1, .int .i64 t, t0_3, t0_4, t0_5, .pointer (some ⟨w.heap.size + 1, 0, none⟩), t0_7, t0_8, .int .i64 E.c, .int .i64 E.s, .int .i64 E.u, .int .i64 E.v, .pointer (some ⟨w7.heap.size, 0, none⟩), .pointer (some ⟨w8.heap.size, 0, none⟩), t0_15, .pointer (some ⟨w3010.heap.size, 0, none⟩), .pointer (some ⟨w3010.heap.size + 1, 0, none⟩), .pointer (some ⟨w3010.heap.size + 1 + 1, 0, none⟩), .int .i64 ((E.st (k + 1) 0).1), .int .i64 ((E.st (k + 1) 0).2.1), .int .i64 ((E.st (k + 1) 0).2.2), .int .i64 E.nr, .int .i64 (E.tt k), .int .i64 ((k : Int) + 1), t0_25, t0_26, t0_27, t0_28, t0_29, t0_30, t0_31, t0_32, t0_33, t0_34, t0_35, t0_36, t0_37, t0_38, t0_39, t0_40, t0_41, t0_42, t0_43, t0_44, t0_45, t0_46, t0_47, t0_48, t0_49, t0_50, t0_51, t0_52, t0_53, t0_54, t0_55, t0_56, t0_57, t0_58, t0_59, t0_60, t0_61, t0_62, t0_63, t0_64, t0_65, t0_66, t0_67, t0_68, t0_69, t0_70, t0_71, t0_72, t0_73, t0_74, t0_75, t0_76, t0_77, t0_78, t0_79, t0_80, t0_81, t0_82, t0_83, t0_84, t0_85, t0_86, t0_87, t0_88, t0_89, t0_90, t0_91, t0_92, t0_93, t0_94, t0_95, t0_96, t0_97, t0_98, t0_99, t0_100, t0_101, t0_102, t0_103, t0_104, t0_105, t0_106, t0_107, t0_108, t0_109, t0_110, t0_111, t0_112, t0_113, t0_114, t0_115, t0_116, t0_117, t0_118, t0_119, t0_120, t0_121, t0_122, t0_123, t0_124, t0_125, t0_126, t0_127, t0_128, t0_129, t0_130, t0_131, t0_132, t0_133, t0_134, t0_135, t0_136, t0_137, t0_138, t0_139, t0_140, t0_141, t0_142, t0_143, t0_144, t0_145, t0_146, t0_147, t0_148, t0_149, t0_150, t0_151, t0_152, t0_153, t0_154, t0_155, t0_156, t0_157, t0_158, t0_159, t0_160, t0_161, t0_162, t0_163, t0_164, t0_165, t0_166, t0_167, t0_168, t0_169, t0_170, t0_171, t0_172, t0_173, t0_174, t0_175, t0_176, t0_177, t0_178, t0_179, t0_180, t0_181, t0_182, t0_183, t0_184, t0_185, t0_186, t0_187, t0_188, t0_189, t0_190, t0_191, t0_192, t0_193, t0_194, t0_195, t0_196, t0_197, t0_198, t0_199, t0_200, t0_201, t0_202, t0_203, t0_204, t0_205, t0_206, t0_207, t0_208, t0_209, t0_210, t0_211, t0_212, t0_213, t0_214, t0_215, t0_216, t0_217, t0_218, t0_219, t0_220, t0_221, t0_222, t0_223, t0_224, t0_225, t0_226, t0_227, t0_228, t0_229, t0_230, t0_231, t0_232, t0_233, t0_234, t0_235, t0_236, t0_237, t0_238, t0_239, t0_240, t0_241, t0_242, t0_243, t0_244, t0_245, t0_246, t0_247, t0_248, t0_249, t0_250, t0_251, t0_252, t0_253, t0_254, t0_255, t0_256, t0_257, t0_258, t0_259, t0_260, t0_261, t0_262, t0_263, t0_264, t0_265, t0_266, t0_267, t0_268, t0_269, t0_270, t0_271, t0_272, t0_273, t0_274, t0_275, t0_276, t0_277, t0_278, t0_279, t0_280, t0_281, t0_282, t0_283, t0_284, t0_285, t0_286], defers := [] } → Kept b w Wl0 → Fl b false Wl0 → Arr w.heap.size [.int .i64 p.1, .int .i64 p.2.1, .int .i64 p.2.2] Wl0 → Arr (w.heap.size + 1) [.int .i64 0, .int .i64 0, .int .i64 0] Wl0 → Arr w7.heap.size (row 7 (cutF E.g 6)) Wl0 → Arr w8.heap.size (row 7 (cutF (fun i => E.g (7 + i)) 6)) Wl0 → Arr w3010.heap.size (row 49 (triN E.P 6 0)) Wl0 → Arr (w3010.heap.size + 1) (row 49 (triN E.D 6 0)) Wl0 → Arr (w3010.heap.size + 1 + 1) (row 49 (triN E.Q 6 0)) Wl0 → G_) → G_) := ⟨_, rfl⟩
    refine rounds_up J0 6 ?_ ?_ ?_
    · rw [hJ0.out]
      intro G_ hG_
      rw [show E.st (0 + 1) 0 = (0, 0, 0) from E.s0] at hG_
      exact hG_ _ _ _ _ _ _ _ _ _ _ _ _ _ _ _ _ _ _ _ _ _ _ _ _ _ _ _ _ _ _ _ _ _ _ _ _ _ _ _ _ _ _ _ _ _ _ _ _ _ _ _ _ _ _ _ _ _ _ _ _ _ _ _ _ _ _ _ _ _ _ _ _ _ _ _ _ _ _ _ _ _ _ _ _ _ _ _ _ _ _ _ _ _ _ _ _ _ _ _ _ _ _ _ _ _ _ _ _ _ _ _ _ _ _ _ _ _ _ _ _ _ _ _ _ _ _ _ _ _ _ _ _ _ _ _ _ _ _ _ _ _ _ _ _ _ _ _ _ _ _ _ _ _ _ _ _ _ _ _ _ _ _ _ _ _ _ _ _ _ _ _ _ _ _ _ _ _ _ _ _ _ _ _ _ _ _ _ _ _ _ _ _ _ _ _ _ _ _ _ _ _ _ _ _ _ _ _ _ _ _ _ _ _ _ _ _ _ _ _ _ _ _ _ _ _ _ _ _ _ _ _ _ _ _ _ _ _ _ _ _ _ _ _ _ _ _ _ _ _ _ _ _ _ _ _ _ _ _ _ _ _ _ _ _ _ _ _ _ _ rfl K3015 f3015 B0_3015 B1_3015 B2_3015 B3_3015 B4_3015 B5_3015 B6_3015
    · intro k a Wl0 hk hI R hR
      rw [hJ0.out] at hI
      refine hI _ ?_
      clear hI
      intro t0_1 t0_3 t0_4 t0_5 t0_7 t0_8 t0_15 t0_25 t0_26 t0_27 t0_28 t0_29 t0_30 t0_31 t0_32 t0_33 t0_34 t0_35 t0_36 t0_37 t0_38 t0_39 t0_40 t0_41 t0_42 t0_43 t0_44 t0_45 t0_46 t0_47 t0_48 t0_49 t0_50 t0_51 t0_52 t0_53 t0_54 t0_55 t0_56 t0_57 t0_58 t0_59 t0_60 t0_61 t0_62 t0_63 t0_64 t0_65 t0_66 t0_67 t0_68 t0_69 t0_70 t0_71 t0_72 t0_73 t0_74 t0_75 t0_76 t0_77 t0_78 t0_79 t0_80 t0_81 t0_82 t0_83 t0_84 t0_85 t0_86 t0_87 t0_88 t0_89 t0_90 t0_91 t0_92 t0_93 t0_94 t0_95 t0_96 t0_97 t0_98 t0_99 t0_100 t0_101 t0_102 t0_103 t0_104 t0_105 t0_106 t0_107 t0_108 t0_109 t0_110 t0_111 t0_112 t0_113 t0_114 t0_115 t0_116 t0_117 t0_118 t0_119 t0_120 t0_121 t0_122 t0_123 t0_124 t0_125 t0_126 t0_127 t0_128 t0_129 t0_130 t0_131 t0_132 t0_133 t0_134 t0_135 t0_136 t0_137 t0_138 t0_139 t0_140 t0_141 t0_142 t0_143 t0_144 t0_145 t0_146 t0_147 t0_148 t0_149 t0_150 t0_151 t0_152 t0_153 t0_154 t0_155 t0_156 t0_157 t0_158 t0_159 t0_160 t0_161 t0_162 t0_163 t0_164 t0_165 t0_166 t0_167 t0_168 t0_169 t0_170 t0_171 t0_172 t0_173 t0_174 t0_175 t0_176 t0_177 t0_178 t0_179 t0_180 t0_181 t0_182 t0_183 t0_184 t0_185 t0_186 t0_187 t0_188 t0_189 t0_190 t0_191 t0_192 t0_193 t0_194 t0_195 t0_196 t0_197 t0_198 t0_199 t0_200 t0_201 t0_202 t0_203 t0_204 t0_205 t0_206 t0_207 t0_208 t0_209 t0_210 t0_211 t0_212 t0_213 t0_214 t0_215 t0_216 t0_217 t0_218 t0_219 t0_220 t0_221 t0_222 t0_223 t0_224 t0_225 t0_226 t0_227 t0_228 t0_229 t0_230 t0_231 t0_232 t0_233 t0_234 t0_235 t0_236 t0_237 t0_238 t0_239 t0_240 t0_241 t0_242 t0_243 t0_244 t0_245 t0_246 t0_247 t0_248 t0_249 t0_250 t0_251 t0_252 t0_253 t0_254 t0_255 t0_256 t0_257 t0_258 t0_259 t0_260 t0_261 t0_262 t0_263 t0_264 t0_265 t0_266 t0_267 t0_268 t0_269 t0_270 t0_271 t0_272 t0_273 t0_274 t0_275 t0_276 t0_277 t0_278 t0_279 t0_280 t0_281 t0_282 t0_283 t0_284 t0_285 t0_286 ea Kl0 BF_l0 B0_l0 B1_l0 B2_l0 B3_l0 B4_l0 B5_l0 B6_l0
      subst ea
      have zl0_BF := BF_l0.lies
      have zl0_B0 := B0_l0.lies
      have zl0_B1 := B1_l0.lies
      have zl0_B2 := B2_l0.lies
      have zl0_B3 := B3_l0.lies
      have zl0_B4 := B4_l0.lies
      have zl0_B5 := B5_l0.lies
      have zl0_B6 := B6_l0.lies
      obtain ⟨M, hM⟩ : ∃ M : Nat, k + 1 = M := ⟨_, rfl⟩
      have eM : (k : Int) + 1 = (M : Int) := by omega
      simp only [hM, eM]
      have HM : Hid (k + 1 = M) := hM
      have hbM : k + 1 ≤ M := by omega
      have hcM : M ≤ k + 1 := by omega
      have htk := E.tn k hk
      rw [hM] at htk
      clear hM eM
      go_wp2_with fail
      refine (rMul_any b false (E.tt k) E.nr _ BF_l0).mono ?_
      rintro e w3016 ⟨rfl, f3016, k3016⟩
      rw [htk] at f3016 ⊢
      dsimp only at f3016 ⊢
      have K3016 : Kept b w w3016 := Kept.trans Kl0 k3016
      have B0_3016 := B0_l0.kept k3016 (Nat.ne_of_gt y1_BF)
      have B1_3016 := B1_l0.kept k3016 (Nat.ne_of_gt y2_BF)
      have B2_3016 := B2_l0.kept k3016 (Nat.ne_of_gt y3_BF)
      have B3_3016 := B3_l0.kept k3016 (Nat.ne_of_gt y4_BF)
      have B4_3016 := B4_l0.kept k3016 (Nat.ne_of_gt y5_BF)
      have B5_3016 := B5_l0.kept k3016 (Nat.ne_of_gt y6_BF)
      have B6_3016 := B6_l0.kept k3016 (Nat.ne_of_gt y7_BF)
      have z3016 := B6_3016.lies
      clear BF_l0 B0_l0 B1_l0 B2_l0 B3_l0 B4_l0 B5_l0 B6_l0 k3016
      go_wp2_with fail
      obtain ⟨J1, hJ1⟩ : ∃ J : Nat → Act → World → Prop, Hid (J = fun m a Wl1 => ∀ G_ : Prop, (∀ (t1_1 t1_3 t1_4 t1_5 t1_7 t1_8 t1_15 t1_26 t1_27 t1_28 t1_29 t1_30 t1_31 t1_32 t1_33 t1_34 t1_35 t1_36 t1_37 t1_38 t1_39 t1_40 t1_41 t1_42 t1_43 t1_44 t1_45 t1_46 t1_47 t1_48 t1_49 t1_50 t1_51 t1_52 t1_53 t1_54 t1_55 t1_56 t1_57 t1_58 t1_59 t1_60 t1_61 t1_62 t1_63 t1_64 t1_65 t1_66 t1_67 t1_68 t1_69 t1_70 t1_71 t1_72 t1_73 t1_74 t1_75 t1_76 t1_77 t1_78 t1_79 t1_80 t1_81 t1_82 t1_83 t1_84 t1_85 t1_86 t1_87 t1_88 t1_89 t1_90 t1_91 t1_92 t1_93 t1_94 t1_95 t1_96 t1_97 t1_98 t1_99 t1_100 t1_101 t1_102 t1_103 t1_104 t1_105 t1_106 t1_107 t1_108 t1_109 t1_110 t1_111 t1_112 t1_113 t1_114 t1_115 t1_116 t1_117 t1_118 t1_119 t1_120 t1_121 t1_122 t1_123 t1_124 t1_125 t1_126 t1_127 t1_128 t1_129 t1_130 t1_131 t1_132 t1_133 t1_134 t1_135 t1_136 t1_137 t1_138 t1_139 t1_140 t1_141 t1_142 t1_143 t1_144 t1_145 t1_146 t1_147 t1_148 t1_149 t1_150 t1_151 t1_152 t1_153 t1_154 t1_155 t1_156 t1_157 t1_158 t1_159 t1_160 t1_161 t1_162 t1_163 t1_164 t1_165 t1_166 t1_167 t1_168 t1_169 t1_170 t1_171 t1_172 t1_173 t1_174 t1_175 t1_176 t1_177 t1_178 t1_179 t1_180 t1_181 t1_182 t1_183 t1_184 t1_185 t1_186 t1_187 t1_188 t1_189 t1_190 t1_191 t1_192 t1_193 t1_194 t1_195 t1_196 t1_197 t1_198 t1_199 t1_200 t1_201 t1_202 t1_203 t1_204 t1_205 t1_206 t1_207 t1_208 t1_209 t1_210 t1_211 t1_212 t1_213 t1_214 t1_215 t1_216 t1_217 t1_218 t1_219 t1_220 t1_221 t1_222 t1_223 t1_224 t1_225 t1_226 t1_227 t1_228 t1_229 t1_230 t1_231 t1_232 t1_233 t1_234 t1_235 t1_236 t1_237 t1_238 t1_239 t1_240 t1_241 t1_242 t1_243 t1_244 t1_245 t1_246 t1_247 t1_248 t1_249 t1_250 t1_251 t1_252 t1_253 t1_254 t1_255 t1_256 t1_257 t1_258 t1_259 t1_260 t1_261 t1_262 t1_263 t1_264 t1_265 t1_266 t1_267 t1_268 t1_269 t1_270 t1_271 t1_272 t1_273 t1_274 t1_275 t1_276 t1_277 t1_278 t1_279 t1_280 t1_281 t1_282 t1_283 t1_284 t1_285 t1_286 : Value), a = { tmps := #[.pointer (some ⟨b, 0, none⟩), t1_1, .int .i64 t, t1_3, t1_4, t1_5, .pointer (some ⟨w.heap.size + 1, 0, none⟩), t1_7, t1_8, .int .i64 E.c, .int .i64 E.s, .int .i64 E.u, .int .i64 E.v, .pointer (some ⟨w7.heap.size, 0, none⟩), .pointer (some ⟨w8.heap.size, 0, none⟩), t1_15, .pointer (some ⟨w3010.heap.size, 0, none⟩), .pointer (some ⟨w3010.heap.size + 1, 0, none⟩), .pointer (some ⟨w3010.heap.size + 1 + 1, 0, none⟩), .int .i64 ((E.st M m).1), .int .i64 ((E.st M m).2.1), .int .i64 ((E.st M m).2.2), .int .i64 E.nr, .int .i64 (E.tt M), .int .i64 (M : Int), .int .i64 (m : Int), t1_26, t1_27, t1_28, t1_29, t1_30, t1_31, t1_32, t1_33, t1_34, t1_35, t1_36, t1_37, t1_38, t1_39, t1_40, t1_41, t1_42, t1_43, t1_44, t1_45, t1_46, t1_47, t1_48, t1_49, t1_50, t1_51, t1_52, t1_53, t1_54, t1_55, t1_56, t1_57, t1_58, t1_59, t1_60, t1_61, t1_62, t1_63, t1_64, t1_65, t1_66, t1_67, t1_68, t1_69, t1_70, t1_71, t1_72, t1_73, t1_74, t1_75, t1_76, t1_77, t1_78, t1_79, t1_80, t1_81, t1_82, t1_83, t1_84, t1_85, t1_86, t1_87, t1_88, t1_89, t1_90, t1_91, t1_92, t1_93, t1_94, t1_95, t1_96, t1_97, t1_98, t1_99, t1_100, t1_101, t1_102, t1_103, t1_104, t1_105, t1_106, t1_107, t1_108, t1_109, t1_110, t1_111, t1_112, t1_113, t1_114, t1_115, t1_116, t1_117, t1_118, t1_119, t1_120, t1_121, t1_122, t1_123, t1_124, t1_125, t1_126, t1_127, t1_128, t1_129, t1_130, t1_131, t1_132, t1_133, t1_134, t1_135, t1_136, t1_137, t1_138, t1_139, t1_140, t1_141, t1_142, t1_143, t1_144, t1_145, t1_146, t1_147, t1_148, t1_149, t1_150, t1_151, t1_152, t1_153, t1_154, t1_155, t1_156, t1_157, t1_158, t1_159, t1_160, t1_161, t1_162, t1_163, t1_164, t1_165, t1_166, t1_167, t1_168, t1_169, t1_170, t1_171, t1_172, t1_173, t1_174, t1_175, t1_176, t1_177, t1_178, t1_179, t1_180, t1_181, t1_182, t1_183, t1_184, t1_185, t1_186, t1_187, t1_188, t1_189, t1_190, t1_191, t1_192, t1_193, t1_194, t1_195, t1_196, t1_197, t1_198, t1_199, t1_200, t1_201, t1_202, t1_203, t1_204, t1_205, t1_206, t1_207, t1_208, t1_209, t1_210, t1_211, t1_212, t1_213, t1_214, t1_215, t1_216, t1_217, t1_218, t1_219, t1_220, t1_221, t1_222, t1_223, t1_224, t1_225, t1_226, t1_227, t1_228, t1_229, t1_230, t1_231, t1_232, t1_233, t1_234, t1_235, t1_236, t1_237, t1_238, t1_239, t1_240, t1_241, t1_242, t1_243, t1_244, t1_245, t1_246, t1_247, t1_248, t1_249, t1_250, t1_251, t1_252, t1_253, t1_254, t1_255, t1_256, t1_257, t1_258, t1_259, t1_260, t1_261, t1_262, t1_263, t1_264, t1_265, t1_266, t1_267, t1_268, t1_269, t1_270, t1_271, t1_272, t1_273, t1_274, t1_275, t1_276, t1_277, t1_278, t1_279, t1_280, t1_281, t1_282, t1_283, t1_284, t1_285, t1_286], defers := [] } → Kept b w Wl1 → Fl b false Wl1 → Arr w.heap.size [.int .i64 p.1, .int .i64 p.2.1, .int .i64 p.2.2] Wl1 → Arr (w.heap.size + 1) [.int .i64 0, .int .i64 0, .int .i64 0] Wl1 → Arr w7.heap.size (row 7 (cutF E.g 6)) Wl1 → Arr w8.heap.size (row 7 (cutF (fun i => E.g (7 + i)) 6)) Wl1 → Arr w3010.heap.size (row 49 (triN E.P 6 0)) Wl1 → Arr (w3010.heap.size + 1) (row 49 (triN E.D 6 0)) Wl1 → Arr (w3010.heap.size + 1 + 1) (row 49 (triN E.Q 6 0)) Wl1 → G_) → G_) := ⟨_, rfl⟩
      refine rounds_up J1 (M + 1) ?_ ?_ ?_
      · rw [hJ1.out]
        intro G_ hG_
        exact hG_ _ _ _ _ _ _ _ _ _ _ _ _ _ _ _ _ _ _ _ _ _ _ _ _ _ _ _ _ _ _ _ _ _ _ _ _ _ _ _ _ _ _ _ _ _ _ _ _ _ _ _ _ _ _ _ _ _ _ _ _ _ _ _ _ _ _ _ _ _ _ _ _ _ _ _ _ _ _ _ _ _ _ _ _ _ _ _ _ _ _ _ _ _ _ _ _ _ _ _ _ _ _ _ _ _ _ _ _ _ _ _ _ _ _ _ _ _ _ _ _ _ _ _ _ _ _ _ _ _ _ _ _ _ _ _ _ _ _ _ _ _ _ _ _ _ _ _ _ _ _ _ _ _ _ _ _ _ _ _ _ _ _ _ _ _ _ _ _ _ _ _ _ _ _ _ _ _ _ _ _ _ _ _ _ _ _ _ _ _ _ _ _ _ _ _ _ _ _ _ _ _ _ _ _ _ _ _ _ _ _ _ _ _ _ _ _ _ _ _ _ _ _ _ _ _ _ _ _ _ _ _ _ _ _ _ _ _ _ _ _ _ _ _ _ _ _ _ _ _ _ _ _ _ _ _ _ _ _ _ _ _ _ _ _ _ _ _ _ rfl K3016 f3016 B0_3016 B1_3016 B2_3016 B3_3016 B4_3016 B5_3016 B6_3016
      · intro m a Wl1 hm hI R hR
        rw [hJ1.out] at hI
        refine hI _ ?_
        clear hI
        intro t1_1 t1_3 t1_4 t1_5 t1_7 t1_8 t1_15 t1_26 t1_27 t1_28 t1_29 t1_30 t1_31 t1_32 t1_33 t1_34 t1_35 t1_36 t1_37 t1_38 t1_39 t1_40 t1_41 t1_42 t1_43 t1_44 t1_45 t1_46 t1_47 t1_48 t1_49 t1_50 t1_51 t1_52 t1_53 t1_54 t1_55 t1_56 t1_57 t1_58 t1_59 t1_60 t1_61 t1_62 t1_63 t1_64 t1_65 t1_66 t1_67 t1_68 t1_69 t1_70 t1_71 t1_72 t1_73 t1_74 t1_75 t1_76 t1_77 t1_78 t1_79 t1_80 t1_81 t1_82 t1_83 t1_84 t1_85 t1_86 t1_87 t1_88 t1_89 t1_90 t1_91 t1_92 t1_93 t1_94 t1_95 t1_96 t1_97 t1_98 t1_99 t1_100 t1_101 t1_102 t1_103 t1_104 t1_105 t1_106 t1_107 t1_108 t1_109 t1_110 t1_111 t1_112 t1_113 t1_114 t1_115 t1_116 t1_117 t1_118 t1_119 t1_120 t1_121 t1_122 t1_123 t1_124 t1_125 t1_126 t1_127 t1_128 t1_129 t1_130 t1_131 t1_132 t1_133 t1_134 t1_135 t1_136 t1_137 t1_138 t1_139 t1_140 t1_141 t1_142 t1_143 t1_144 t1_145 t1_146 t1_147 t1_148 t1_149 t1_150 t1_151 t1_152 t1_153 t1_154 t1_155 t1_156 t1_157 t1_158 t1_159 t1_160 t1_161 t1_162 t1_163 t1_164 t1_165 t1_166 t1_167 t1_168 t1_169 t1_170 t1_171 t1_172 t1_173 t1_174 t1_175 t1_176 t1_177 t1_178 t1_179 t1_180 t1_181 t1_182 t1_183 t1_184 t1_185 t1_186 t1_187 t1_188 t1_189 t1_190 t1_191 t1_192 t1_193 t1_194 t1_195 t1_196 t1_197 t1_198 t1_199 t1_200 t1_201 t1_202 t1_203 t1_204 t1_205 t1_206 t1_207 t1_208 t1_209 t1_210 t1_211 t1_212 t1_213 t1_214 t1_215 t1_216 t1_217 t1_218 t1_219 t1_220 t1_221 t1_222 t1_223 t1_224 t1_225 t1_226 t1_227 t1_228 t1_229 t1_230 t1_231 t1_232 t1_233 t1_234 t1_235 t1_236 t1_237 t1_238 t1_239 t1_240 t1_241 t1_242 t1_243 t1_244 t1_245 t1_246 t1_247 t1_248 t1_249 t1_250 t1_251 t1_252 t1_253 t1_254 t1_255 t1_256 t1_257 t1_258 t1_259 t1_260 t1_261 t1_262 t1_263 t1_264 t1_265 t1_266 t1_267 t1_268 t1_269 t1_270 t1_271 t1_272 t1_273 t1_274 t1_275 t1_276 t1_277 t1_278 t1_279 t1_280 t1_281 t1_282 t1_283 t1_284 t1_285 t1_286 ea Kl1 BF_l1 B0_l1 B1_l1 B2_l1 B3_l1 B4_l1 B5_l1 B6_l1
        subst ea
        have zl1_BF := BF_l1.lies
        have zl1_B0 := B0_l1.lies
        have zl1_B1 := B1_l1.lies
        have zl1_B2 := B2_l1.lies
        have zl1_B3 := B3_l1.lies
        have zl1_B4 := B4_l1.lies
        have zl1_B5 := B5_l1.lies
        have zl1_B6 := B6_l1.lies
        have hn_ := E.N M m (by omega) (by omega) (by omega)
        have T : TermT (M : Int) (m : Int) (E.tt M) (cutF E.g 6 m) (cutF (fun i => E.g (7 + i)) 6 m) (E.G M m) (E.H M m) (triN E.P 6 0 (M * 7 + m)) (triN E.D 6 0 (M * 7 + m)) (triN E.Q 6 0 (M * 7 + m)) (E.st M m).1 (E.st M m).2.1 (E.st M m).2.2 (E.st M (m + 1)).1 (E.st M (m + 1)).2.1 (E.st M (m + 1)).2.2 := by rw [cutF_at E.g (show m ≤ 6 by omega), cutF_at (fun i => E.g (7 + i)) (show m ≤ 6 by omega), triN_all E.P (show m ≤ M by omega) (by omega), triN_all E.D (show m ≤ M by omega) (by omega), triN_all E.Q (show m ≤ M by omega) (by omega)]; exact E.T M m (by omega) (by omega) (by omega)
        go_wp2_with fail
        refine (rnum_any b false (M : Int) (m : Int) t _ BF_l1 rfl).mono ?_
        rintro e w3017 ⟨rfl, f3017, k3017⟩
        rw [hn_] at f3017 ⊢
        dsimp only at f3017 ⊢
        have K3017 : Kept b w w3017 := Kept.trans Kl1 k3017
        have B0_3017 := B0_l1.kept k3017 (Nat.ne_of_gt y1_BF)
        have B1_3017 := B1_l1.kept k3017 (Nat.ne_of_gt y2_BF)
        have B2_3017 := B2_l1.kept k3017 (Nat.ne_of_gt y3_BF)
        have B3_3017 := B3_l1.kept k3017 (Nat.ne_of_gt y4_BF)
        have B4_3017 := B4_l1.kept k3017 (Nat.ne_of_gt y5_BF)
        have B5_3017 := B5_l1.kept k3017 (Nat.ne_of_gt y6_BF)
        have B6_3017 := B6_l1.kept k3017 (Nat.ne_of_gt y7_BF)
        have z3017 := B6_3017.lies
        clear BF_l1 B0_l1 B1_l1 B2_l1 B3_l1 B4_l1 B5_l1 B6_l1 k3017
        go_wp2_with fail
        refine wp_region_held_drew (S := fun w' => Arr w7.heap.size (row 7 (cutF E.g 6)) w' ∧ Arr w8.heap.size (row 7 (cutF (fun i => E.g (7 + i)) 6)) w') (by kernel_rfl) ⟨B2_3017.drew, B3_3017.drew⟩ (fun hHeld => ?_)
        refine take_at (i := 0) (v := ?v31) rfl (by kernel_rfl) (by kernel_rfl) (by kernel_rfl) (fun _ _ _ h => h) (Or.inl ⟨by rfl, ?y31⟩) hHeld ?t31
        case y31 => (intro wx hSw; go_simp <;> with_reducible rfl)
        simp only [Act.put, List.setIfInBounds_toArray, List.set_cons_zero, List.set_cons_succ]
        refine take_at (i := 1) (v := ?v32) rfl (by kernel_rfl) (by kernel_rfl) (by kernel_rfl) (fun _ _ _ h => h) (Or.inl ⟨by rfl, ?y32⟩) hHeld ?t32
        case y32 => (intro wx hSw; go_simp <;> with_reducible rfl)
        simp only [Act.put, List.setIfInBounds_toArray, List.set_cons_zero, List.set_cons_succ]
        refine take_at (i := 2) (v := ?v33) rfl (by kernel_rfl) (by kernel_rfl) (by kernel_rfl) (fun _ _ _ h => h) (Or.inl ⟨by rfl, ?y33⟩) hHeld ?t33
        case y33 => (intro wx hSw; go_simp <;> with_reducible rfl)
        simp only [Act.put, List.setIfInBounds_toArray, List.set_cons_zero, List.set_cons_succ]
        refine take_at (i := 3) (v := ?v34) rfl (by kernel_rfl) (by kernel_rfl) (by kernel_rfl) (fun _ _ _ h => h) (Or.inl ⟨by rfl, ?y34⟩) hHeld ?t34
        case y34 => (intro wx hSw; go_simp <;> with_reducible rfl)
        simp only [Act.put, List.setIfInBounds_toArray, List.set_cons_zero, List.set_cons_succ]
        refine take_at (i := 4) (v := ?v35) rfl (by kernel_rfl) (by kernel_rfl) (by kernel_rfl) (fun _ _ _ h => h) (Or.inl ⟨by rfl, ?y35⟩) hHeld ?t35
        case y35 => (intro wx hSw; have hi0 : (m : Int) < 7 := (by omega); go_simp <;> with_reducible rfl)
        simp only [Act.put, List.setIfInBounds_toArray, List.set_cons_zero, List.set_cons_succ]
        refine take_at (i := 5) (v := ?v36) rfl (by kernel_rfl) (by kernel_rfl) (by kernel_rfl) (fun _ _ _ h => h) (Or.inl ⟨by rfl, ?y36⟩) hHeld ?t36
        case y36 => (intro wx hSw; have hc0 : wx.cell? ⟨w7.heap.size, m, none⟩ = some (.int .i64 ((cutF E.g 6) m)) := row_c hSw.1 m (by omega); go_simp <;> with_reducible rfl)
        simp only [Act.put, List.setIfInBounds_toArray, List.set_cons_zero, List.set_cons_succ]
        refine take_at (i := 7) (v := ?v37) rfl (by kernel_rfl) (by kernel_rfl) (by kernel_rfl) (fun _ _ _ h => h) (Or.inl ⟨by rfl, ?y37⟩) hHeld ?t37
        case y37 => (intro wx hSw; go_simp <;> with_reducible rfl)
        simp only [Act.put, List.setIfInBounds_toArray, List.set_cons_zero, List.set_cons_succ]
        refine take_at (i := 8) (v := ?v38) rfl (by kernel_rfl) (by kernel_rfl) (by kernel_rfl) (fun _ _ _ h => h) (Or.inl ⟨by rfl, ?y38⟩) hHeld ?t38
        case y38 => (intro wx hSw; go_simp <;> with_reducible rfl)
        simp only [Act.put, List.setIfInBounds_toArray, List.set_cons_zero, List.set_cons_succ]
        refine take_at (i := 9) (v := ?v39) rfl (by kernel_rfl) (by kernel_rfl) (by kernel_rfl) (fun _ _ _ h => h) (Or.inl ⟨by rfl, ?y39⟩) hHeld ?t39
        case y39 => (intro wx hSw; go_simp <;> with_reducible rfl)
        simp only [Act.put, List.setIfInBounds_toArray, List.set_cons_zero, List.set_cons_succ]
        refine take_at (i := 10) (v := ?v40) rfl (by kernel_rfl) (by kernel_rfl) (by kernel_rfl) (fun _ _ _ h => h) (Or.inl ⟨by rfl, ?y40⟩) hHeld ?t40
        case y40 => (intro wx hSw; have hi0 : (m : Int) < 7 := (by omega); go_simp <;> with_reducible rfl)
        simp only [Act.put, List.setIfInBounds_toArray, List.set_cons_zero, List.set_cons_succ]
        refine take_at (i := 11) (v := ?v41) rfl (by kernel_rfl) (by kernel_rfl) (by kernel_rfl) (fun _ _ _ h => h) (Or.inl ⟨by rfl, ?y41⟩) hHeld ?t41
        case y41 => (intro wx hSw; have hc0 : wx.cell? ⟨w8.heap.size, m, none⟩ = some (.int .i64 ((cutF (fun i => E.g (7 + i)) 6) m)) := row_c hSw.2 m (by omega); go_simp <;> with_reducible rfl)
        simp only [Act.put, List.setIfInBounds_toArray, List.set_cons_zero, List.set_cons_succ]
        refine call_at (i := 6) (by kernel_rfl) rfl (fun K hK => ?_)
        go_simp
        refine (rMul_any b false (E.G M m) ((cutF E.g 6) m) _ f3017.drew).mono ?_
        rintro e w3018 ⟨rfl, f3018, k3018⟩
        rw [T.h1] at f3018 ⊢
        dsimp only at f3018 ⊢
        have K3018 : Kept b w w3018 := Kept.trans K3017.drew k3018
        have B0_3018 := B0_3017.drew.kept k3018 (Nat.ne_of_gt y1_BF)
        have B1_3018 := B1_3017.drew.kept k3018 (Nat.ne_of_gt y2_BF)
        have B2_3018 := B2_3017.drew.kept k3018 (Nat.ne_of_gt y3_BF)
        have B3_3018 := B3_3017.drew.kept k3018 (Nat.ne_of_gt y4_BF)
        have B4_3018 := B4_3017.drew.kept k3018 (Nat.ne_of_gt y5_BF)
        have B5_3018 := B5_3017.drew.kept k3018 (Nat.ne_of_gt y6_BF)
        have B6_3018 := B6_3017.drew.kept k3018 (Nat.ne_of_gt y7_BF)
        have z3018 := B6_3018.lies
        clear hHeld
        refine hK.out _ _ ⟨B2_3018, B3_3018⟩ (fun hHeld => ?_)
        clear hK K K3017 f3017 B0_3017 B1_3017 B2_3017 B3_3017 B4_3017 B5_3017 B6_3017 k3018
        refine call_at (i := 12) (by kernel_rfl) rfl (fun K hK => ?_)
        go_simp
        refine (rMul_any b false (E.H M m) ((cutF (fun i => E.g (7 + i)) 6) m) _ f3018).mono ?_
        rintro e w3019 ⟨rfl, f3019, k3019⟩
        rw [T.h2] at f3019 ⊢
        dsimp only at f3019 ⊢
        have K3019 : Kept b w w3019 := Kept.trans K3018 k3019
        have B0_3019 := B0_3018.kept k3019 (Nat.ne_of_gt y1_BF)
        have B1_3019 := B1_3018.kept k3019 (Nat.ne_of_gt y2_BF)
        have B2_3019 := B2_3018.kept k3019 (Nat.ne_of_gt y3_BF)
        have B3_3019 := B3_3018.kept k3019 (Nat.ne_of_gt y4_BF)
        have B4_3019 := B4_3018.kept k3019 (Nat.ne_of_gt y5_BF)
        have B5_3019 := B5_3018.kept k3019 (Nat.ne_of_gt y6_BF)
        have B6_3019 := B6_3018.kept k3019 (Nat.ne_of_gt y7_BF)
        have z3019 := B6_3019.lies
        clear hHeld
        refine hK.out _ _ ⟨B2_3019, B3_3019⟩ (fun hHeld => ?_)
        clear hK K K3018 f3018 B0_3018 B1_3018 B2_3018 B3_3018 B4_3018 B5_3018 B6_3018 k3019
        refine call_at (i := 13) (by kernel_rfl) rfl (fun K hK => ?_)
        go_simp
        refine (rAdd_any b false T.v1 T.v2 _ f3019).mono ?_
        rintro e w3020 ⟨rfl, f3020, k3020⟩
        rw [T.h3] at f3020 ⊢
        dsimp only at f3020 ⊢
        have K3020 : Kept b w w3020 := Kept.trans K3019 k3020
        have B0_3020 := B0_3019.kept k3020 (Nat.ne_of_gt y1_BF)
        have B1_3020 := B1_3019.kept k3020 (Nat.ne_of_gt y2_BF)
        have B2_3020 := B2_3019.kept k3020 (Nat.ne_of_gt y3_BF)
        have B3_3020 := B3_3019.kept k3020 (Nat.ne_of_gt y4_BF)
        have B4_3020 := B4_3019.kept k3020 (Nat.ne_of_gt y5_BF)
        have B5_3020 := B5_3019.kept k3020 (Nat.ne_of_gt y6_BF)
        have B6_3020 := B6_3019.kept k3020 (Nat.ne_of_gt y7_BF)
        have z3020 := B6_3020.lies
        clear hHeld
        refine hK.out _ _ ⟨B2_3020, B3_3020⟩ (fun hHeld => ?_)
        clear hK K K3019 f3019 B0_3019 B1_3019 B2_3019 B3_3019 B4_3019 B5_3019 B6_3019 k3020
        refine take_at (i := 14) (v := ?v42) rfl (by kernel_rfl) (by kernel_rfl) (by kernel_rfl) (fun _ _ _ h => h) (Or.inl ⟨by rfl, ?y42⟩) hHeld ?t42
        case y42 => (intro wx hSw; go_simp <;> with_reducible rfl)
        simp only [Act.put, List.setIfInBounds_toArray, List.set_cons_zero, List.set_cons_succ]
        refine wpAnyH_done (by kernel_rfl) ?_ _
        clear hHeld
        go_wp2_with fail
        refine wp_region_held_drew (S := fun w' => Arr w8.heap.size (row 7 (cutF (fun i => E.g (7 + i)) 6)) w' ∧ Arr w7.heap.size (row 7 (cutF E.g 6)) w') (by kernel_rfl) ⟨B3_3020.drew, B2_3020.drew⟩ (fun hHeld => ?_)
        refine take_at (i := 0) (v := ?v43) rfl (by kernel_rfl) (by kernel_rfl) (by kernel_rfl) (fun _ _ _ h => h) (Or.inl ⟨by rfl, ?y43⟩) hHeld ?t43
        case y43 => (intro wx hSw; go_simp <;> with_reducible rfl)
        simp only [Act.put, List.setIfInBounds_toArray, List.set_cons_zero, List.set_cons_succ]
        refine take_at (i := 1) (v := ?v44) rfl (by kernel_rfl) (by kernel_rfl) (by kernel_rfl) (fun _ _ _ h => h) (Or.inl ⟨by rfl, ?y44⟩) hHeld ?t44
        case y44 => (intro wx hSw; go_simp <;> with_reducible rfl)
        simp only [Act.put, List.setIfInBounds_toArray, List.set_cons_zero, List.set_cons_succ]
        refine take_at (i := 2) (v := ?v45) rfl (by kernel_rfl) (by kernel_rfl) (by kernel_rfl) (fun _ _ _ h => h) (Or.inl ⟨by rfl, ?y45⟩) hHeld ?t45
        case y45 => (intro wx hSw; go_simp <;> with_reducible rfl)
        simp only [Act.put, List.setIfInBounds_toArray, List.set_cons_zero, List.set_cons_succ]
        refine take_at (i := 3) (v := ?v46) rfl (by kernel_rfl) (by kernel_rfl) (by kernel_rfl) (fun _ _ _ h => h) (Or.inl ⟨by rfl, ?y46⟩) hHeld ?t46
        case y46 => (intro wx hSw; go_simp <;> with_reducible rfl)
        simp only [Act.put, List.setIfInBounds_toArray, List.set_cons_zero, List.set_cons_succ]
        refine take_at (i := 4) (v := ?v47) rfl (by kernel_rfl) (by kernel_rfl) (by kernel_rfl) (fun _ _ _ h => h) (Or.inl ⟨by rfl, ?y47⟩) hHeld ?t47
        case y47 => (intro wx hSw; have hi0 : (m : Int) < 7 := (by omega); go_simp <;> with_reducible rfl)
        simp only [Act.put, List.setIfInBounds_toArray, List.set_cons_zero, List.set_cons_succ]
        refine take_at (i := 5) (v := ?v48) rfl (by kernel_rfl) (by kernel_rfl) (by kernel_rfl) (fun _ _ _ h => h) (Or.inl ⟨by rfl, ?y48⟩) hHeld ?t48
        case y48 => (intro wx hSw; have hc0 : wx.cell? ⟨w8.heap.size, m, none⟩ = some (.int .i64 ((cutF (fun i => E.g (7 + i)) 6) m)) := row_c hSw.1 m (by omega); go_simp <;> with_reducible rfl)
        simp only [Act.put, List.setIfInBounds_toArray, List.set_cons_zero, List.set_cons_succ]
        refine take_at (i := 7) (v := ?v49) rfl (by kernel_rfl) (by kernel_rfl) (by kernel_rfl) (fun _ _ _ h => h) (Or.inl ⟨by rfl, ?y49⟩) hHeld ?t49
        case y49 => (intro wx hSw; go_simp <;> with_reducible rfl)
        simp only [Act.put, List.setIfInBounds_toArray, List.set_cons_zero, List.set_cons_succ]
        refine take_at (i := 8) (v := ?v50) rfl (by kernel_rfl) (by kernel_rfl) (by kernel_rfl) (fun _ _ _ h => h) (Or.inl ⟨by rfl, ?y50⟩) hHeld ?t50
        case y50 => (intro wx hSw; go_simp <;> with_reducible rfl)
        simp only [Act.put, List.setIfInBounds_toArray, List.set_cons_zero, List.set_cons_succ]
        refine take_at (i := 9) (v := ?v51) rfl (by kernel_rfl) (by kernel_rfl) (by kernel_rfl) (fun _ _ _ h => h) (Or.inl ⟨by rfl, ?y51⟩) hHeld ?t51
        case y51 => (intro wx hSw; go_simp <;> with_reducible rfl)
        simp only [Act.put, List.setIfInBounds_toArray, List.set_cons_zero, List.set_cons_succ]
        refine take_at (i := 10) (v := ?v52) rfl (by kernel_rfl) (by kernel_rfl) (by kernel_rfl) (fun _ _ _ h => h) (Or.inl ⟨by rfl, ?y52⟩) hHeld ?t52
        case y52 => (intro wx hSw; have hi0 : (m : Int) < 7 := (by omega); go_simp <;> with_reducible rfl)
        simp only [Act.put, List.setIfInBounds_toArray, List.set_cons_zero, List.set_cons_succ]
        refine take_at (i := 11) (v := ?v53) rfl (by kernel_rfl) (by kernel_rfl) (by kernel_rfl) (fun _ _ _ h => h) (Or.inl ⟨by rfl, ?y53⟩) hHeld ?t53
        case y53 => (intro wx hSw; have hc0 : wx.cell? ⟨w7.heap.size, m, none⟩ = some (.int .i64 ((cutF E.g 6) m)) := row_c hSw.2 m (by omega); go_simp <;> with_reducible rfl)
        simp only [Act.put, List.setIfInBounds_toArray, List.set_cons_zero, List.set_cons_succ]
        refine call_at (i := 6) (by kernel_rfl) rfl (fun K hK => ?_)
        go_simp
        refine (rMul_any b false (E.G M m) ((cutF (fun i => E.g (7 + i)) 6) m) _ f3020.drew).mono ?_
        rintro e w3021 ⟨rfl, f3021, k3021⟩
        rw [T.h4] at f3021 ⊢
        dsimp only at f3021 ⊢
        have K3021 : Kept b w w3021 := Kept.trans K3020.drew k3021
        have B0_3021 := B0_3020.drew.kept k3021 (Nat.ne_of_gt y1_BF)
        have B1_3021 := B1_3020.drew.kept k3021 (Nat.ne_of_gt y2_BF)
        have B2_3021 := B2_3020.drew.kept k3021 (Nat.ne_of_gt y3_BF)
        have B3_3021 := B3_3020.drew.kept k3021 (Nat.ne_of_gt y4_BF)
        have B4_3021 := B4_3020.drew.kept k3021 (Nat.ne_of_gt y5_BF)
        have B5_3021 := B5_3020.drew.kept k3021 (Nat.ne_of_gt y6_BF)
        have B6_3021 := B6_3020.drew.kept k3021 (Nat.ne_of_gt y7_BF)
        have z3021 := B6_3021.lies
        clear hHeld
        refine hK.out _ _ ⟨B3_3021, B2_3021⟩ (fun hHeld => ?_)
        clear hK K K3020 f3020 B0_3020 B1_3020 B2_3020 B3_3020 B4_3020 B5_3020 B6_3020 k3021
        refine call_at (i := 12) (by kernel_rfl) rfl (fun K hK => ?_)
        go_simp
        refine (rMul_any b false (E.H M m) ((cutF E.g 6) m) _ f3021).mono ?_
        rintro e w3022 ⟨rfl, f3022, k3022⟩
        rw [T.h5] at f3022 ⊢
        dsimp only at f3022 ⊢
        have K3022 : Kept b w w3022 := Kept.trans K3021 k3022
        have B0_3022 := B0_3021.kept k3022 (Nat.ne_of_gt y1_BF)
        have B1_3022 := B1_3021.kept k3022 (Nat.ne_of_gt y2_BF)
        have B2_3022 := B2_3021.kept k3022 (Nat.ne_of_gt y3_BF)
        have B3_3022 := B3_3021.kept k3022 (Nat.ne_of_gt y4_BF)
        have B4_3022 := B4_3021.kept k3022 (Nat.ne_of_gt y5_BF)
        have B5_3022 := B5_3021.kept k3022 (Nat.ne_of_gt y6_BF)
        have B6_3022 := B6_3021.kept k3022 (Nat.ne_of_gt y7_BF)
        have z3022 := B6_3022.lies
        clear hHeld
        refine hK.out _ _ ⟨B3_3022, B2_3022⟩ (fun hHeld => ?_)
        clear hK K K3021 f3021 B0_3021 B1_3021 B2_3021 B3_3021 B4_3021 B5_3021 B6_3021 k3022
        refine call_at (i := 13) (by kernel_rfl) rfl (fun K hK => ?_)
        go_simp
        refine (rSub_any b false T.v4 T.v5 _ f3022).mono ?_
        rintro e w3023 ⟨rfl, f3023, k3023⟩
        rw [T.h6] at f3023 ⊢
        dsimp only at f3023 ⊢
        have K3023 : Kept b w w3023 := Kept.trans K3022 k3023
        have B0_3023 := B0_3022.kept k3023 (Nat.ne_of_gt y1_BF)
        have B1_3023 := B1_3022.kept k3023 (Nat.ne_of_gt y2_BF)
        have B2_3023 := B2_3022.kept k3023 (Nat.ne_of_gt y3_BF)
        have B3_3023 := B3_3022.kept k3023 (Nat.ne_of_gt y4_BF)
        have B4_3023 := B4_3022.kept k3023 (Nat.ne_of_gt y5_BF)
        have B5_3023 := B5_3022.kept k3023 (Nat.ne_of_gt y6_BF)
        have B6_3023 := B6_3022.kept k3023 (Nat.ne_of_gt y7_BF)
        have z3023 := B6_3023.lies
        clear hHeld
        refine hK.out _ _ ⟨B3_3023, B2_3023⟩ (fun hHeld => ?_)
        clear hK K K3022 f3022 B0_3022 B1_3022 B2_3022 B3_3022 B4_3022 B5_3022 B6_3022 k3023
        refine take_at (i := 14) (v := ?v54) rfl (by kernel_rfl) (by kernel_rfl) (by kernel_rfl) (fun _ _ _ h => h) (Or.inl ⟨by rfl, ?y54⟩) hHeld ?t54
        case y54 => (intro wx hSw; go_simp <;> with_reducible rfl)
        simp only [Act.put, List.setIfInBounds_toArray, List.set_cons_zero, List.set_cons_succ]
        refine wpAnyH_done (by kernel_rfl) ?_ _
        clear hHeld
        have c29_B4_0 : w3023.cell? ⟨w3010.heap.size, M * 7 + m, none⟩ = some (.int .i64 ((triN E.P 6 0) (M * 7 + m))) := row_c B4_3023 (M * 7 + m) (by omega)
        have i29_1 : (M : Int) < 7 := by omega
        have i29_2 : (m : Int) < 7 := by omega
        go_wp2_with fail
        refine (rMul_any b false T.e ((triN E.P 6 0) (M * 7 + m)) _ f3023).mono ?_
        rintro e w3024 ⟨rfl, f3024, k3024⟩
        rw [T.i1] at f3024 ⊢
        dsimp only at f3024 ⊢
        have K3024 : Kept b w w3024 := Kept.trans K3023 k3024
        have B0_3024 := B0_3023.kept k3024 (Nat.ne_of_gt y1_BF)
        have B1_3024 := B1_3023.kept k3024 (Nat.ne_of_gt y2_BF)
        have B2_3024 := B2_3023.kept k3024 (Nat.ne_of_gt y3_BF)
        have B3_3024 := B3_3023.kept k3024 (Nat.ne_of_gt y4_BF)
        have B4_3024 := B4_3023.kept k3024 (Nat.ne_of_gt y5_BF)
        have B5_3024 := B5_3023.kept k3024 (Nat.ne_of_gt y6_BF)
        have B6_3024 := B6_3023.kept k3024 (Nat.ne_of_gt y7_BF)
        have z3024 := B6_3024.lies
        clear c29_B4_0 i29_1 i29_2 K3023 f3023 B0_3023 B1_3023 B2_3023 B3_3023 B4_3023 B5_3023 B6_3023 k3024
        go_wp2_with fail
        refine (rMul_any b false (E.tt M) T.y1 _ f3024).mono ?_
        rintro e w3025 ⟨rfl, f3025, k3025⟩
        rw [T.j1] at f3025 ⊢
        dsimp only at f3025 ⊢
        have K3025 : Kept b w w3025 := Kept.trans K3024 k3025
        have B0_3025 := B0_3024.kept k3025 (Nat.ne_of_gt y1_BF)
        have B1_3025 := B1_3024.kept k3025 (Nat.ne_of_gt y2_BF)
        have B2_3025 := B2_3024.kept k3025 (Nat.ne_of_gt y3_BF)
        have B3_3025 := B3_3024.kept k3025 (Nat.ne_of_gt y4_BF)
        have B4_3025 := B4_3024.kept k3025 (Nat.ne_of_gt y5_BF)
        have B5_3025 := B5_3024.kept k3025 (Nat.ne_of_gt y6_BF)
        have B6_3025 := B6_3024.kept k3025 (Nat.ne_of_gt y7_BF)
        have z3025 := B6_3025.lies
        clear K3024 f3024 B0_3024 B1_3024 B2_3024 B3_3024 B4_3024 B5_3024 B6_3024 k3025
        go_wp2_with fail
        refine (rPart_any b false T.z1 ((M : Int) + 1) 1 _ f3025).mono ?_
        rintro e w3026 ⟨rfl, f3026, k3026⟩
        rw [T.q1] at f3026 ⊢
        dsimp only at f3026 ⊢
        have K3026 : Kept b w w3026 := Kept.trans K3025 k3026
        have B0_3026 := B0_3025.kept k3026 (Nat.ne_of_gt y1_BF)
        have B1_3026 := B1_3025.kept k3026 (Nat.ne_of_gt y2_BF)
        have B2_3026 := B2_3025.kept k3026 (Nat.ne_of_gt y3_BF)
        have B3_3026 := B3_3025.kept k3026 (Nat.ne_of_gt y4_BF)
        have B4_3026 := B4_3025.kept k3026 (Nat.ne_of_gt y5_BF)
        have B5_3026 := B5_3025.kept k3026 (Nat.ne_of_gt y6_BF)
        have B6_3026 := B6_3025.kept k3026 (Nat.ne_of_gt y7_BF)
        have z3026 := B6_3026.lies
        clear K3025 f3025 B0_3025 B1_3025 B2_3025 B3_3025 B4_3025 B5_3025 B6_3025 k3026
        go_wp2_with fail
        refine (rAdd_any b false ((E.st M m).1) T.p1 _ f3026).mono ?_
        rintro e w3027 ⟨rfl, f3027, k3027⟩
        rw [T.a1] at f3027 ⊢
        dsimp only at f3027 ⊢
        have K3027 : Kept b w w3027 := Kept.trans K3026 k3027
        have B0_3027 := B0_3026.kept k3027 (Nat.ne_of_gt y1_BF)
        have B1_3027 := B1_3026.kept k3027 (Nat.ne_of_gt y2_BF)
        have B2_3027 := B2_3026.kept k3027 (Nat.ne_of_gt y3_BF)
        have B3_3027 := B3_3026.kept k3027 (Nat.ne_of_gt y4_BF)
        have B4_3027 := B4_3026.kept k3027 (Nat.ne_of_gt y5_BF)
        have B5_3027 := B5_3026.kept k3027 (Nat.ne_of_gt y6_BF)
        have B6_3027 := B6_3026.kept k3027 (Nat.ne_of_gt y7_BF)
        have z3027 := B6_3027.lies
        clear K3026 f3026 B0_3026 B1_3026 B2_3026 B3_3026 B4_3026 B5_3026 B6_3026 k3027
        have c33_B5_0 : w3027.cell? ⟨w3010.heap.size + 1, M * 7 + m, none⟩ = some (.int .i64 ((triN E.D 6 0) (M * 7 + m))) := row_c B5_3027 (M * 7 + m) (by omega)
        have i33_1 : (M : Int) < 7 := by omega
        have i33_2 : (m : Int) < 7 := by omega
        go_wp2_with fail
        refine (rMul_any b false T.e ((triN E.D 6 0) (M * 7 + m)) _ f3027).mono ?_
        rintro e w3028 ⟨rfl, f3028, k3028⟩
        rw [T.i2] at f3028 ⊢
        dsimp only at f3028 ⊢
        have K3028 : Kept b w w3028 := Kept.trans K3027 k3028
        have B0_3028 := B0_3027.kept k3028 (Nat.ne_of_gt y1_BF)
        have B1_3028 := B1_3027.kept k3028 (Nat.ne_of_gt y2_BF)
        have B2_3028 := B2_3027.kept k3028 (Nat.ne_of_gt y3_BF)
        have B3_3028 := B3_3027.kept k3028 (Nat.ne_of_gt y4_BF)
        have B4_3028 := B4_3027.kept k3028 (Nat.ne_of_gt y5_BF)
        have B5_3028 := B5_3027.kept k3028 (Nat.ne_of_gt y6_BF)
        have B6_3028 := B6_3027.kept k3028 (Nat.ne_of_gt y7_BF)
        have z3028 := B6_3028.lies
        clear c33_B5_0 i33_1 i33_2 K3027 f3027 B0_3027 B1_3027 B2_3027 B3_3027 B4_3027 B5_3027 B6_3027 k3028
        go_wp2_with fail
        refine (rMul_any b false (E.tt M) T.y2 _ f3028).mono ?_
        rintro e w3029 ⟨rfl, f3029, k3029⟩
        rw [T.j2] at f3029 ⊢
        dsimp only at f3029 ⊢
        have K3029 : Kept b w w3029 := Kept.trans K3028 k3029
        have B0_3029 := B0_3028.kept k3029 (Nat.ne_of_gt y1_BF)
        have B1_3029 := B1_3028.kept k3029 (Nat.ne_of_gt y2_BF)
        have B2_3029 := B2_3028.kept k3029 (Nat.ne_of_gt y3_BF)
        have B3_3029 := B3_3028.kept k3029 (Nat.ne_of_gt y4_BF)
        have B4_3029 := B4_3028.kept k3029 (Nat.ne_of_gt y5_BF)
        have B5_3029 := B5_3028.kept k3029 (Nat.ne_of_gt y6_BF)
        have B6_3029 := B6_3028.kept k3029 (Nat.ne_of_gt y7_BF)
        have z3029 := B6_3029.lies
        clear K3028 f3028 B0_3028 B1_3028 B2_3028 B3_3028 B4_3028 B5_3028 B6_3028 k3029
        go_wp2_with fail
        refine (rSub_any b false ((E.st M m).2.1) T.z2 _ f3029).mono ?_
        rintro e w3030 ⟨rfl, f3030, k3030⟩
        rw [T.a2] at f3030 ⊢
        dsimp only at f3030 ⊢
        have K3030 : Kept b w w3030 := Kept.trans K3029 k3030
        have B0_3030 := B0_3029.kept k3030 (Nat.ne_of_gt y1_BF)
        have B1_3030 := B1_3029.kept k3030 (Nat.ne_of_gt y2_BF)
        have B2_3030 := B2_3029.kept k3030 (Nat.ne_of_gt y3_BF)
        have B3_3030 := B3_3029.kept k3030 (Nat.ne_of_gt y4_BF)
        have B4_3030 := B4_3029.kept k3030 (Nat.ne_of_gt y5_BF)
        have B5_3030 := B5_3029.kept k3030 (Nat.ne_of_gt y6_BF)
        have B6_3030 := B6_3029.kept k3030 (Nat.ne_of_gt y7_BF)
        have z3030 := B6_3030.lies
        clear K3029 f3029 B0_3029 B1_3029 B2_3029 B3_3029 B4_3029 B5_3029 B6_3029 k3030
        by_cases hc1 : (m : Int) > 0
        · have Hhc1 : Hid ((m : Int) > 0) := hc1
          have c36_B6_0 : w3030.cell? ⟨w3010.heap.size + 1 + 1, M * 7 + m, none⟩ = some (.int .i64 ((triN E.Q 6 0) (M * 7 + m))) := row_c B6_3030 (M * 7 + m) (by omega)
          have i36_1 : (M : Int) < 7 := by omega
          have i36_2 : (m : Int) < 7 := by omega
          go_wp2_with fail
          refine (rMul_any b false T.o ((triN E.Q 6 0) (M * 7 + m)) _ f3030).mono ?_
          rintro e w3031 ⟨rfl, f3031, k3031⟩
          rw [T.i3] at f3031 ⊢
          dsimp only at f3031 ⊢
          have K3031 : Kept b w w3031 := Kept.trans K3030 k3031
          have B0_3031 := B0_3030.kept k3031 (Nat.ne_of_gt y1_BF)
          have B1_3031 := B1_3030.kept k3031 (Nat.ne_of_gt y2_BF)
          have B2_3031 := B2_3030.kept k3031 (Nat.ne_of_gt y3_BF)
          have B3_3031 := B3_3030.kept k3031 (Nat.ne_of_gt y4_BF)
          have B4_3031 := B4_3030.kept k3031 (Nat.ne_of_gt y5_BF)
          have B5_3031 := B5_3030.kept k3031 (Nat.ne_of_gt y6_BF)
          have B6_3031 := B6_3030.kept k3031 (Nat.ne_of_gt y7_BF)
          have z3031 := B6_3031.lies
          clear c36_B6_0 i36_1 i36_2 K3030 f3030 B0_3030 B1_3030 B2_3030 B3_3030 B4_3030 B5_3030 B6_3030 k3031
          go_wp2_with fail
          refine (rMul_any b false (E.tt M) T.y3 _ f3031).mono ?_
          rintro e w3032 ⟨rfl, f3032, k3032⟩
          rw [T.j3] at f3032 ⊢
          dsimp only at f3032 ⊢
          have K3032 : Kept b w w3032 := Kept.trans K3031 k3032
          have B0_3032 := B0_3031.kept k3032 (Nat.ne_of_gt y1_BF)
          have B1_3032 := B1_3031.kept k3032 (Nat.ne_of_gt y2_BF)
          have B2_3032 := B2_3031.kept k3032 (Nat.ne_of_gt y3_BF)
          have B3_3032 := B3_3031.kept k3032 (Nat.ne_of_gt y4_BF)
          have B4_3032 := B4_3031.kept k3032 (Nat.ne_of_gt y5_BF)
          have B5_3032 := B5_3031.kept k3032 (Nat.ne_of_gt y6_BF)
          have B6_3032 := B6_3031.kept k3032 (Nat.ne_of_gt y7_BF)
          have z3032 := B6_3032.lies
          clear K3031 f3031 B0_3031 B1_3031 B2_3031 B3_3031 B4_3031 B5_3031 B6_3031 k3032
          go_wp2_with fail
          refine (rPart_any b false T.z3 (m : Int) 1 _ f3032).mono ?_
          rintro e w3033 ⟨rfl, f3033, k3033⟩
          rw [T.q3] at f3033 ⊢
          dsimp only at f3033 ⊢
          have K3033 : Kept b w w3033 := Kept.trans K3032 k3033
          have B0_3033 := B0_3032.kept k3033 (Nat.ne_of_gt y1_BF)
          have B1_3033 := B1_3032.kept k3033 (Nat.ne_of_gt y2_BF)
          have B2_3033 := B2_3032.kept k3033 (Nat.ne_of_gt y3_BF)
          have B3_3033 := B3_3032.kept k3033 (Nat.ne_of_gt y4_BF)
          have B4_3033 := B4_3032.kept k3033 (Nat.ne_of_gt y5_BF)
          have B5_3033 := B5_3032.kept k3033 (Nat.ne_of_gt y6_BF)
          have B6_3033 := B6_3032.kept k3033 (Nat.ne_of_gt y7_BF)
          have z3033 := B6_3033.lies
          clear K3032 f3032 B0_3032 B1_3032 B2_3032 B3_3032 B4_3032 B5_3032 B6_3032 k3033
          go_wp2_with fail
          refine (rAdd_any b false ((E.st M m).2.2) T.p3 _ f3033).mono ?_
          rintro e w3034 ⟨rfl, f3034, k3034⟩
          rw [T.a3] at f3034 ⊢
          dsimp only at f3034 ⊢
          have K3034 : Kept b w w3034 := Kept.trans K3033 k3034
          have B0_3034 := B0_3033.kept k3034 (Nat.ne_of_gt y1_BF)
          have B1_3034 := B1_3033.kept k3034 (Nat.ne_of_gt y2_BF)
          have B2_3034 := B2_3033.kept k3034 (Nat.ne_of_gt y3_BF)
          have B3_3034 := B3_3033.kept k3034 (Nat.ne_of_gt y4_BF)
          have B4_3034 := B4_3033.kept k3034 (Nat.ne_of_gt y5_BF)
          have B5_3034 := B5_3033.kept k3034 (Nat.ne_of_gt y6_BF)
          have B6_3034 := B6_3033.kept k3034 (Nat.ne_of_gt y7_BF)
          have z3034 := B6_3034.lies
          clear K3033 f3033 B0_3033 B1_3033 B2_3033 B3_3033 B4_3033 B5_3033 B6_3033 k3034
          go_wp2_with fail
          rw [hJ1.out]
          intro G_ hG_
          exact hG_ _ _ _ _ _ _ _ _ _ _ _ _ _ _ _ _ _ _ _ _ _ _ _ _ _ _ _ _ _ _ _ _ _ _ _ _ _ _ _ _ _ _ _ _ _ _ _ _ _ _ _ _ _ _ _ _ _ _ _ _ _ _ _ _ _ _ _ _ _ _ _ _ _ _ _ _ _ _ _ _ _ _ _ _ _ _ _ _ _ _ _ _ _ _ _ _ _ _ _ _ _ _ _ _ _ _ _ _ _ _ _ _ _ _ _ _ _ _ _ _ _ _ _ _ _ _ _ _ _ _ _ _ _ _ _ _ _ _ _ _ _ _ _ _ _ _ _ _ _ _ _ _ _ _ _ _ _ _ _ _ _ _ _ _ _ _ _ _ _ _ _ _ _ _ _ _ _ _ _ _ _ _ _ _ _ _ _ _ _ _ _ _ _ _ _ _ _ _ _ _ _ _ _ _ _ _ _ _ _ _ _ _ _ _ _ _ _ _ _ _ _ _ _ _ _ _ _ _ _ _ _ _ _ _ _ _ _ _ _ _ _ _ _ _ _ _ _ _ _ _ _ _ _ _ _ _ _ _ _ _ _ _ _ _ _ _ _ _ rfl K3034 f3034 B0_3034 B1_3034 B2_3034 B3_3034 B4_3034 B5_3034 B6_3034
        · have Hhc1 : Hid (¬ (m : Int) > 0) := hc1
          go_wp2_with fail
          have hea : (E.st M m).2.2 = (E.st M (m + 1)).2.2 := (T.a0 (by omega)).symm
          simp only [hea]
          rw [hJ1.out]
          intro G_ hG_
          exact hG_ _ _ _ _ _ _ _ _ _ _ _ _ _ _ _ _ _ _ _ _ _ _ _ _ _ _ _ _ _ _ _ _ _ _ _ _ _ _ _ _ _ _ _ _ _ _ _ _ _ _ _ _ _ _ _ _ _ _ _ _ _ _ _ _ _ _ _ _ _ _ _ _ _ _ _ _ _ _ _ _ _ _ _ _ _ _ _ _ _ _ _ _ _ _ _ _ _ _ _ _ _ _ _ _ _ _ _ _ _ _ _ _ _ _ _ _ _ _ _ _ _ _ _ _ _ _ _ _ _ _ _ _ _ _ _ _ _ _ _ _ _ _ _ _ _ _ _ _ _ _ _ _ _ _ _ _ _ _ _ _ _ _ _ _ _ _ _ _ _ _ _ _ _ _ _ _ _ _ _ _ _ _ _ _ _ _ _ _ _ _ _ _ _ _ _ _ _ _ _ _ _ _ _ _ _ _ _ _ _ _ _ _ _ _ _ _ _ _ _ _ _ _ _ _ _ _ _ _ _ _ _ _ _ _ _ _ _ _ _ _ _ _ _ _ _ _ _ _ _ _ _ _ _ _ _ _ _ _ _ _ _ _ _ _ _ _ _ _ rfl K3030 f3030 B0_3030 B1_3030 B2_3030 B3_3030 B4_3030 B5_3030 B6_3030
      · intro a Wl1 hI R
        rw [hJ1.out] at hI
        refine hI _ ?_
        clear hI hJ1
        intro t1_1 t1_3 t1_4 t1_5 t1_7 t1_8 t1_15 t1_26 t1_27 t1_28 t1_29 t1_30 t1_31 t1_32 t1_33 t1_34 t1_35 t1_36 t1_37 t1_38 t1_39 t1_40 t1_41 t1_42 t1_43 t1_44 t1_45 t1_46 t1_47 t1_48 t1_49 t1_50 t1_51 t1_52 t1_53 t1_54 t1_55 t1_56 t1_57 t1_58 t1_59 t1_60 t1_61 t1_62 t1_63 t1_64 t1_65 t1_66 t1_67 t1_68 t1_69 t1_70 t1_71 t1_72 t1_73 t1_74 t1_75 t1_76 t1_77 t1_78 t1_79 t1_80 t1_81 t1_82 t1_83 t1_84 t1_85 t1_86 t1_87 t1_88 t1_89 t1_90 t1_91 t1_92 t1_93 t1_94 t1_95 t1_96 t1_97 t1_98 t1_99 t1_100 t1_101 t1_102 t1_103 t1_104 t1_105 t1_106 t1_107 t1_108 t1_109 t1_110 t1_111 t1_112 t1_113 t1_114 t1_115 t1_116 t1_117 t1_118 t1_119 t1_120 t1_121 t1_122 t1_123 t1_124 t1_125 t1_126 t1_127 t1_128 t1_129 t1_130 t1_131 t1_132 t1_133 t1_134 t1_135 t1_136 t1_137 t1_138 t1_139 t1_140 t1_141 t1_142 t1_143 t1_144 t1_145 t1_146 t1_147 t1_148 t1_149 t1_150 t1_151 t1_152 t1_153 t1_154 t1_155 t1_156 t1_157 t1_158 t1_159 t1_160 t1_161 t1_162 t1_163 t1_164 t1_165 t1_166 t1_167 t1_168 t1_169 t1_170 t1_171 t1_172 t1_173 t1_174 t1_175 t1_176 t1_177 t1_178 t1_179 t1_180 t1_181 t1_182 t1_183 t1_184 t1_185 t1_186 t1_187 t1_188 t1_189 t1_190 t1_191 t1_192 t1_193 t1_194 t1_195 t1_196 t1_197 t1_198 t1_199 t1_200 t1_201 t1_202 t1_203 t1_204 t1_205 t1_206 t1_207 t1_208 t1_209 t1_210 t1_211 t1_212 t1_213 t1_214 t1_215 t1_216 t1_217 t1_218 t1_219 t1_220 t1_221 t1_222 t1_223 t1_224 t1_225 t1_226 t1_227 t1_228 t1_229 t1_230 t1_231 t1_232 t1_233 t1_234 t1_235 t1_236 t1_237 t1_238 t1_239 t1_240 t1_241 t1_242 t1_243 t1_244 t1_245 t1_246 t1_247 t1_248 t1_249 t1_250 t1_251 t1_252 t1_253 t1_254 t1_255 t1_256 t1_257 t1_258 t1_259 t1_260 t1_261 t1_262 t1_263 t1_264 t1_265 t1_266 t1_267 t1_268 t1_269 t1_270 t1_271 t1_272 t1_273 t1_274 t1_275 t1_276 t1_277 t1_278 t1_279 t1_280 t1_281 t1_282 t1_283 t1_284 t1_285 t1_286 ea Kl1 BF_l1 B0_l1 B1_l1 B2_l1 B3_l1 B4_l1 B5_l1 B6_l1
        subst ea
        have zl1_BF := BF_l1.lies
        have zl1_B0 := B0_l1.lies
        have zl1_B1 := B1_l1.lies
        have zl1_B2 := B2_l1.lies
        have zl1_B3 := B3_l1.lies
        have zl1_B4 := B4_l1.lies
        have zl1_B5 := B5_l1.lies
        have zl1_B6 := B6_l1.lies
        go_wp2_with fail
        rw [E.sn M (by omega) (by omega)]
        have Q_BF := BF_l1
        have Q_B0 := B0_l1
        have Q_B1 := B1_l1
        have Q_B2 := B2_l1
        have Q_B3 := B3_l1
        have Q_B4 := B4_l1
        have Q_B5 := B5_l1
        have Q_B6 := B6_l1
        have Q_base := Kl1
        obtain rfl := HM.out
        rw [hJ0.out]
        intro G_ hG_
        exact hG_ _ _ _ _ _ _ _ _ _ _ _ _ _ _ _ _ _ _ _ _ _ _ _ _ _ _ _ _ _ _ _ _ _ _ _ _ _ _ _ _ _ _ _ _ _ _ _ _ _ _ _ _ _ _ _ _ _ _ _ _ _ _ _ _ _ _ _ _ _ _ _ _ _ _ _ _ _ _ _ _ _ _ _ _ _ _ _ _ _ _ _ _ _ _ _ _ _ _ _ _ _ _ _ _ _ _ _ _ _ _ _ _ _ _ _ _ _ _ _ _ _ _ _ _ _ _ _ _ _ _ _ _ _ _ _ _ _ _ _ _ _ _ _ _ _ _ _ _ _ _ _ _ _ _ _ _ _ _ _ _ _ _ _ _ _ _ _ _ _ _ _ _ _ _ _ _ _ _ _ _ _ _ _ _ _ _ _ _ _ _ _ _ _ _ _ _ _ _ _ _ _ _ _ _ _ _ _ _ _ _ _ _ _ _ _ _ _ _ _ _ _ _ _ _ _ _ _ _ _ _ _ _ _ _ _ _ _ _ _ _ _ _ _ _ _ _ _ _ _ _ _ _ _ _ _ _ _ _ _ _ _ _ _ _ _ _ _ _ _ rfl Q_base Q_BF Q_B0 Q_B1 Q_B2 Q_B3 Q_B4 Q_B5 Q_B6
    · intro a Wl0 hI R
      rw [hJ0.out] at hI
      refine hI _ ?_
      clear hI hJ0
      intro t0_1 t0_3 t0_4 t0_5 t0_7 t0_8 t0_15 t0_25 t0_26 t0_27 t0_28 t0_29 t0_30 t0_31 t0_32 t0_33 t0_34 t0_35 t0_36 t0_37 t0_38 t0_39 t0_40 t0_41 t0_42 t0_43 t0_44 t0_45 t0_46 t0_47 t0_48 t0_49 t0_50 t0_51 t0_52 t0_53 t0_54 t0_55 t0_56 t0_57 t0_58 t0_59 t0_60 t0_61 t0_62 t0_63 t0_64 t0_65 t0_66 t0_67 t0_68 t0_69 t0_70 t0_71 t0_72 t0_73 t0_74 t0_75 t0_76 t0_77 t0_78 t0_79 t0_80 t0_81 t0_82 t0_83 t0_84 t0_85 t0_86 t0_87 t0_88 t0_89 t0_90 t0_91 t0_92 t0_93 t0_94 t0_95 t0_96 t0_97 t0_98 t0_99 t0_100 t0_101 t0_102 t0_103 t0_104 t0_105 t0_106 t0_107 t0_108 t0_109 t0_110 t0_111 t0_112 t0_113 t0_114 t0_115 t0_116 t0_117 t0_118 t0_119 t0_120 t0_121 t0_122 t0_123 t0_124 t0_125 t0_126 t0_127 t0_128 t0_129 t0_130 t0_131 t0_132 t0_133 t0_134 t0_135 t0_136 t0_137 t0_138 t0_139 t0_140 t0_141 t0_142 t0_143 t0_144 t0_145 t0_146 t0_147 t0_148 t0_149 t0_150 t0_151 t0_152 t0_153 t0_154 t0_155 t0_156 t0_157 t0_158 t0_159 t0_160 t0_161 t0_162 t0_163 t0_164 t0_165 t0_166 t0_167 t0_168 t0_169 t0_170 t0_171 t0_172 t0_173 t0_174 t0_175 t0_176 t0_177 t0_178 t0_179 t0_180 t0_181 t0_182 t0_183 t0_184 t0_185 t0_186 t0_187 t0_188 t0_189 t0_190 t0_191 t0_192 t0_193 t0_194 t0_195 t0_196 t0_197 t0_198 t0_199 t0_200 t0_201 t0_202 t0_203 t0_204 t0_205 t0_206 t0_207 t0_208 t0_209 t0_210 t0_211 t0_212 t0_213 t0_214 t0_215 t0_216 t0_217 t0_218 t0_219 t0_220 t0_221 t0_222 t0_223 t0_224 t0_225 t0_226 t0_227 t0_228 t0_229 t0_230 t0_231 t0_232 t0_233 t0_234 t0_235 t0_236 t0_237 t0_238 t0_239 t0_240 t0_241 t0_242 t0_243 t0_244 t0_245 t0_246 t0_247 t0_248 t0_249 t0_250 t0_251 t0_252 t0_253 t0_254 t0_255 t0_256 t0_257 t0_258 t0_259 t0_260 t0_261 t0_262 t0_263 t0_264 t0_265 t0_266 t0_267 t0_268 t0_269 t0_270 t0_271 t0_272 t0_273 t0_274 t0_275 t0_276 t0_277 t0_278 t0_279 t0_280 t0_281 t0_282 t0_283 t0_284 t0_285 t0_286 ea Kl0 BF_l0 B0_l0 B1_l0 B2_l0 B3_l0 B4_l0 B5_l0 B6_l0
      subst ea
      have zl0_BF := BF_l0.lies
      have zl0_B0 := B0_l0.lies
      have zl0_B1 := B1_l0.lies
      have zl0_B2 := B2_l0.lies
      have zl0_B3 := B3_l0.lies
      have zl0_B4 := B4_l0.lies
      have zl0_B5 := B5_l0.lies
      have zl0_B6 := B6_l0.lies
      go_wp2_with fail
      refine (rMul_any b false ((E.st 7 0).1) E.s _ BF_l0).mono ?_
      rintro e w4016 ⟨rfl, f4016, k4016⟩
      rw [V_.h1] at f4016 ⊢
      dsimp only at f4016 ⊢
      have K4016 : Kept b w w4016 := Kept.trans Kl0 k4016
      have B0_4016 := B0_l0.kept k4016 (Nat.ne_of_gt y1_BF)
      have B1_4016 := B1_l0.kept k4016 (Nat.ne_of_gt y2_BF)
      have B2_4016 := B2_l0.kept k4016 (Nat.ne_of_gt y3_BF)
      have B3_4016 := B3_l0.kept k4016 (Nat.ne_of_gt y4_BF)
      have B4_4016 := B4_l0.kept k4016 (Nat.ne_of_gt y5_BF)
      have B5_4016 := B5_l0.kept k4016 (Nat.ne_of_gt y6_BF)
      have B6_4016 := B6_l0.kept k4016 (Nat.ne_of_gt y7_BF)
      have z4016 := B6_4016.lies
      clear BF_l0 B0_l0 B1_l0 B2_l0 B3_l0 B4_l0 B5_l0 B6_l0 k4016
      go_wp2_with fail
      refine (rMul_any b false ((E.st 7 0).2.1) E.c _ f4016).mono ?_
      rintro e w4017 ⟨rfl, f4017, k4017⟩
      rw [V_.h2] at f4017 ⊢
      dsimp only at f4017 ⊢
      have K4017 : Kept b w w4017 := Kept.trans K4016 k4017
      have B0_4017 := B0_4016.kept k4017 (Nat.ne_of_gt y1_BF)
      have B1_4017 := B1_4016.kept k4017 (Nat.ne_of_gt y2_BF)
      have B2_4017 := B2_4016.kept k4017 (Nat.ne_of_gt y3_BF)
      have B3_4017 := B3_4016.kept k4017 (Nat.ne_of_gt y4_BF)
      have B4_4017 := B4_4016.kept k4017 (Nat.ne_of_gt y5_BF)
      have B5_4017 := B5_4016.kept k4017 (Nat.ne_of_gt y6_BF)
      have B6_4017 := B6_4016.kept k4017 (Nat.ne_of_gt y7_BF)
      have z4017 := B6_4017.lies
      clear K4016 f4016 B0_4016 B1_4016 B2_4016 B3_4016 B4_4016 B5_4016 B6_4016 k4017
      go_wp2_with fail
      refine (rAdd_any b false V_.v1 V_.v2 _ f4017).mono ?_
      rintro e w4018 ⟨rfl, f4018, k4018⟩
      rw [V_.h3] at f4018 ⊢
      dsimp only at f4018 ⊢
      have K4018 : Kept b w w4018 := Kept.trans K4017 k4018
      have B0_4018 := B0_4017.kept k4018 (Nat.ne_of_gt y1_BF)
      have B1_4018 := B1_4017.kept k4018 (Nat.ne_of_gt y2_BF)
      have B2_4018 := B2_4017.kept k4018 (Nat.ne_of_gt y3_BF)
      have B3_4018 := B3_4017.kept k4018 (Nat.ne_of_gt y4_BF)
      have B4_4018 := B4_4017.kept k4018 (Nat.ne_of_gt y5_BF)
      have B5_4018 := B5_4017.kept k4018 (Nat.ne_of_gt y6_BF)
      have B6_4018 := B6_4017.kept k4018 (Nat.ne_of_gt y7_BF)
      have z4018 := B6_4018.lies
      clear K4017 f4017 B0_4017 B1_4017 B2_4017 B3_4017 B4_4017 B5_4017 B6_4017 k4018
      go_wp2_with fail
      refine (rMul_any b false V_.a E.u _ f4018).mono ?_
      rintro e w4019 ⟨rfl, f4019, k4019⟩
      rw [V_.h4] at f4019 ⊢
      dsimp only at f4019 ⊢
      have K4019 : Kept b w w4019 := Kept.trans K4018 k4019
      have B0_4019 := B0_4018.kept k4019 (Nat.ne_of_gt y1_BF)
      have B1_4019 := B1_4018.kept k4019 (Nat.ne_of_gt y2_BF)
      have B2_4019 := B2_4018.kept k4019 (Nat.ne_of_gt y3_BF)
      have B3_4019 := B3_4018.kept k4019 (Nat.ne_of_gt y4_BF)
      have B4_4019 := B4_4018.kept k4019 (Nat.ne_of_gt y5_BF)
      have B5_4019 := B5_4018.kept k4019 (Nat.ne_of_gt y6_BF)
      have B6_4019 := B6_4018.kept k4019 (Nat.ne_of_gt y7_BF)
      have z4019 := B6_4019.lies
      clear K4018 f4018 B0_4018 B1_4018 B2_4018 B3_4018 B4_4018 B5_4018 B6_4018 k4019
      go_wp2_with fail
      refine (rMul_any b false ((E.st 7 0).2.2) E.v _ f4019).mono ?_
      rintro e w4020 ⟨rfl, f4020, k4020⟩
      rw [V_.h5] at f4020 ⊢
      dsimp only at f4020 ⊢
      have K4020 : Kept b w w4020 := Kept.trans K4019 k4020
      have B0_4020 := B0_4019.kept k4020 (Nat.ne_of_gt y1_BF)
      have B1_4020 := B1_4019.kept k4020 (Nat.ne_of_gt y2_BF)
      have B2_4020 := B2_4019.kept k4020 (Nat.ne_of_gt y3_BF)
      have B3_4020 := B3_4019.kept k4020 (Nat.ne_of_gt y4_BF)
      have B4_4020 := B4_4019.kept k4020 (Nat.ne_of_gt y5_BF)
      have B5_4020 := B5_4019.kept k4020 (Nat.ne_of_gt y6_BF)
      have B6_4020 := B6_4019.kept k4020 (Nat.ne_of_gt y7_BF)
      have z4020 := B6_4020.lies
      clear K4019 f4019 B0_4019 B1_4019 B2_4019 B3_4019 B4_4019 B5_4019 B6_4019 k4020
      go_wp2_with fail
      refine (rSub_any b false V_.v4 V_.v5 _ f4020).mono ?_
      rintro e w4021 ⟨rfl, f4021, k4021⟩
      rw [V_.h6] at f4021 ⊢
      dsimp only at f4021 ⊢
      have K4021 : Kept b w w4021 := Kept.trans K4020 k4021
      have B0_4021 := B0_4020.kept k4021 (Nat.ne_of_gt y1_BF)
      have B1_4021 := B1_4020.kept k4021 (Nat.ne_of_gt y2_BF)
      have B2_4021 := B2_4020.kept k4021 (Nat.ne_of_gt y3_BF)
      have B3_4021 := B3_4020.kept k4021 (Nat.ne_of_gt y4_BF)
      have B4_4021 := B4_4020.kept k4021 (Nat.ne_of_gt y5_BF)
      have B5_4021 := B5_4020.kept k4021 (Nat.ne_of_gt y6_BF)
      have B6_4021 := B6_4020.kept k4021 (Nat.ne_of_gt y7_BF)
      have z4021 := B6_4021.lies
      clear K4020 f4020 B0_4020 B1_4020 B2_4020 B3_4020 B4_4020 B5_4020 B6_4020 k4021
      go_wp2_with fail
      refine (rMul_any b false V_.a E.v _ f4021).mono ?_
      rintro e w4022 ⟨rfl, f4022, k4022⟩
      rw [V_.h7] at f4022 ⊢
      dsimp only at f4022 ⊢
      have K4022 : Kept b w w4022 := Kept.trans K4021 k4022
      have B0_4022 := B0_4021.kept k4022 (Nat.ne_of_gt y1_BF)
      have B1_4022 := B1_4021.kept k4022 (Nat.ne_of_gt y2_BF)
      have B2_4022 := B2_4021.kept k4022 (Nat.ne_of_gt y3_BF)
      have B3_4022 := B3_4021.kept k4022 (Nat.ne_of_gt y4_BF)
      have B4_4022 := B4_4021.kept k4022 (Nat.ne_of_gt y5_BF)
      have B5_4022 := B5_4021.kept k4022 (Nat.ne_of_gt y6_BF)
      have B6_4022 := B6_4021.kept k4022 (Nat.ne_of_gt y7_BF)
      have z4022 := B6_4022.lies
      clear K4021 f4021 B0_4021 B1_4021 B2_4021 B3_4021 B4_4021 B5_4021 B6_4021 k4022
      go_wp2_with fail
      refine (rMul_any b false ((E.st 7 0).2.2) E.u _ f4022).mono ?_
      rintro e w4023 ⟨rfl, f4023, k4023⟩
      rw [V_.h8] at f4023 ⊢
      dsimp only at f4023 ⊢
      have K4023 : Kept b w w4023 := Kept.trans K4022 k4023
      have B0_4023 := B0_4022.kept k4023 (Nat.ne_of_gt y1_BF)
      have B1_4023 := B1_4022.kept k4023 (Nat.ne_of_gt y2_BF)
      have B2_4023 := B2_4022.kept k4023 (Nat.ne_of_gt y3_BF)
      have B3_4023 := B3_4022.kept k4023 (Nat.ne_of_gt y4_BF)
      have B4_4023 := B4_4022.kept k4023 (Nat.ne_of_gt y5_BF)
      have B5_4023 := B5_4022.kept k4023 (Nat.ne_of_gt y6_BF)
      have B6_4023 := B6_4022.kept k4023 (Nat.ne_of_gt y7_BF)
      have z4023 := B6_4023.lies
      clear K4022 f4022 B0_4022 B1_4022 B2_4022 B3_4022 B4_4022 B5_4022 B6_4022 k4023
      go_wp2_with fail
      refine (rAdd_any b false V_.v7 V_.v8 _ f4023).mono ?_
      rintro e w4024 ⟨rfl, f4024, k4024⟩
      rw [V_.h9] at f4024 ⊢
      dsimp only at f4024 ⊢
      have K4024 : Kept b w w4024 := Kept.trans K4023 k4024
      have B0_4024 := B0_4023.kept k4024 (Nat.ne_of_gt y1_BF)
      have B1_4024 := B1_4023.kept k4024 (Nat.ne_of_gt y2_BF)
      have B2_4024 := B2_4023.kept k4024 (Nat.ne_of_gt y3_BF)
      have B3_4024 := B3_4023.kept k4024 (Nat.ne_of_gt y4_BF)
      have B4_4024 := B4_4023.kept k4024 (Nat.ne_of_gt y5_BF)
      have B5_4024 := B5_4023.kept k4024 (Nat.ne_of_gt y6_BF)
      have B6_4024 := B6_4023.kept k4024 (Nat.ne_of_gt y7_BF)
      have z4024 := B6_4024.lies
      clear K4023 f4023 B0_4023 B1_4023 B2_4023 B3_4023 B4_4023 B5_4023 B6_4023 k4024
      go_wp2_with fail
      refine (rMul_any b false ((E.st 7 0).1) E.c _ f4024).mono ?_
      rintro e w4025 ⟨rfl, f4025, k4025⟩
      rw [V_.h10] at f4025 ⊢
      dsimp only at f4025 ⊢
      have K4025 : Kept b w w4025 := Kept.trans K4024 k4025
      have B0_4025 := B0_4024.kept k4025 (Nat.ne_of_gt y1_BF)
      have B1_4025 := B1_4024.kept k4025 (Nat.ne_of_gt y2_BF)
      have B2_4025 := B2_4024.kept k4025 (Nat.ne_of_gt y3_BF)
      have B3_4025 := B3_4024.kept k4025 (Nat.ne_of_gt y4_BF)
      have B4_4025 := B4_4024.kept k4025 (Nat.ne_of_gt y5_BF)
      have B5_4025 := B5_4024.kept k4025 (Nat.ne_of_gt y6_BF)
      have B6_4025 := B6_4024.kept k4025 (Nat.ne_of_gt y7_BF)
      have z4025 := B6_4025.lies
      clear K4024 f4024 B0_4024 B1_4024 B2_4024 B3_4024 B4_4024 B5_4024 B6_4024 k4025
      go_wp2_with fail
      refine (rMul_any b false ((E.st 7 0).2.1) E.s _ f4025).mono ?_
      rintro e w4026 ⟨rfl, f4026, k4026⟩
      rw [V_.h11] at f4026 ⊢
      dsimp only at f4026 ⊢
      have K4026 : Kept b w w4026 := Kept.trans K4025 k4026
      have B0_4026 := B0_4025.kept k4026 (Nat.ne_of_gt y1_BF)
      have B1_4026 := B1_4025.kept k4026 (Nat.ne_of_gt y2_BF)
      have B2_4026 := B2_4025.kept k4026 (Nat.ne_of_gt y3_BF)
      have B3_4026 := B3_4025.kept k4026 (Nat.ne_of_gt y4_BF)
      have B4_4026 := B4_4025.kept k4026 (Nat.ne_of_gt y5_BF)
      have B5_4026 := B5_4025.kept k4026 (Nat.ne_of_gt y6_BF)
      have B6_4026 := B6_4025.kept k4026 (Nat.ne_of_gt y7_BF)
      have z4026 := B6_4026.lies
      clear K4025 f4025 B0_4025 B1_4025 B2_4025 B3_4025 B4_4025 B5_4025 B6_4025 k4026
      go_wp2_with fail
      refine (rSub_any b false V_.v10 V_.v11 _ f4026).mono ?_
      rintro e w4027 ⟨rfl, f4027, k4027⟩
      rw [V_.h12] at f4027 ⊢
      dsimp only at f4027 ⊢
      have K4027 : Kept b w w4027 := Kept.trans K4026 k4027
      have B0_4027 := B0_4026.kept k4027 (Nat.ne_of_gt y1_BF)
      have B1_4027 := B1_4026.kept k4027 (Nat.ne_of_gt y2_BF)
      have B2_4027 := B2_4026.kept k4027 (Nat.ne_of_gt y3_BF)
      have B3_4027 := B3_4026.kept k4027 (Nat.ne_of_gt y4_BF)
      have B4_4027 := B4_4026.kept k4027 (Nat.ne_of_gt y5_BF)
      have B5_4027 := B5_4026.kept k4027 (Nat.ne_of_gt y6_BF)
      have B6_4027 := B6_4026.kept k4027 (Nat.ne_of_gt y7_BF)
      have z4027 := B6_4027.lies
      clear K4026 f4026 B0_4026 B1_4026 B2_4026 B3_4026 B4_4026 B5_4026 B6_4026 k4027
      have c56_B1_0 : w4027.cell? ⟨w.heap.size + 1, 0, none⟩ = some (.int .i64 0) := B1_4027.c 0 (of_decide_eq_true rfl)
      have c56_B1_1 : w4027.cell? ⟨w.heap.size + 1, 1, none⟩ = some (.int .i64 0) := B1_4027.c 1 (of_decide_eq_true rfl)
      have c56_B1_2 : w4027.cell? ⟨w.heap.size + 1, 2, none⟩ = some (.int .i64 0) := B1_4027.c 2 (of_decide_eq_true rfl)
      have c56_BF := f4027.cell
      have g56_B1_0 := B1_4027.f 0 (of_decide_eq_true rfl)
      have g56_B1_1 := B1_4027.f 1 (of_decide_eq_true rfl)
      have g56_B1_2 := B1_4027.f 2 (of_decide_eq_true rfl)
      go_wp2_with (with_reducible refine post_stop ?_)
      refine Stop.mk ?_
      clear c56_B1_0 c56_B1_1 c56_B1_2 c56_BF g56_B1_0 g56_B1_1 g56_B1_2
      refine bodyPost_ret (v := .agg #[.int .i64 x, .int .i64 y, .int .i64 z]) (results_arr Tryd.results12 (((B1_4027.put 0 (of_decide_eq_true rfl) (.int .i64 x) [.int .i64 x, .int .i64 0, .int .i64 0] rfl).put 1 (of_decide_eq_true rfl) (.int .i64 y) [.int .i64 x, .int .i64 y, .int .i64 0] rfl).put 2 (of_decide_eq_true rfl) (.int .i64 z) [.int .i64 x, .int .i64 y, .int .i64 z] rfl) rfl (by kernel_rfl) (by kernel_rfl)) rfl ?_
      exact ⟨rfl, (((f4027.new (w.heap.size + 1) 0 (Nat.ne_of_lt y2_BF) (.int .i64 x)).new (w.heap.size + 1) 1 (Nat.ne_of_lt y2_BF) (.int .i64 y)).new (w.heap.size + 1) 2 (Nat.ne_of_lt y2_BF) (.int .i64 z)), (((K4027.new _ _ (by omega) _).new _ _ (by omega) _).new _ _ (by omega) _)⟩
end Go.Proofs.YtmhcfkcpoecokaaDoor
