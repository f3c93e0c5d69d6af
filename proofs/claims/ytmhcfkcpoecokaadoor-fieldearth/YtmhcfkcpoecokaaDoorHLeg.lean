/-
  The walk of the reference's legendre, for the seat YtmhcfkcpoecokaaDoor. (Made by mkfield.py.)
-/
import Derived.Test.YtmhcfkcpoecokaaDoorJH
import Derived.Test.YtmhcfkcpoecokaaDoorJK
import Derived.Test.YtmhcfkcpoecokaaDoorJE
import Derived.Handy
import Derived.Deep.RegionHeld3
namespace Go.Proofs.YtmhcfkcpoecokaaDoor
open Go.RowKit

set_option maxRecDepth 100000 in
set_option maxHeartbeats 4000000 in
theorem leg_any (b : Nat) (c s : Int) (P D Q : Nat → Nat → Int) (Z : Tri c s P D Q) (w : World) (hw : Fl b false w) :
    Calls Tryd.prog 39 #[.pointer (some ⟨b, 0, none⟩), .int .i64 c, .int .i64 s] w fun e w' => e = .returned (.tuple #[.agg (row 49 (triN P 6 0)).toArray, .agg (row 49 (triN D 6 0)).toArray, .agg (row 49 (triN Q 6 0)).toArray]) ∧ Fl b false w' ∧ Kept b w w' := by
  have hl := hw.lies
  go_enter Tryd.func39, Tryd.ntmps39
  have y1_BF : b < w.heap.size := hw.lies
  have y2_BF : b < w.heap.size + 1 := (Nat.lt_succ_of_lt hw.lies)
  have y2_B0 : w.heap.size < w.heap.size + 1 := (Nat.lt_succ_self _)
  have y3_BF : b < w.heap.size + 1 + 1 := (Nat.lt_succ_of_lt (Nat.lt_succ_of_lt hw.lies))
  have y3_B0 : w.heap.size < w.heap.size + 1 + 1 := (Nat.lt_succ_of_lt (Nat.lt_succ_self _))
  have y3_B1 : w.heap.size + 1 < w.heap.size + 1 + 1 := (Nat.lt_succ_self _)
  have y4_BF : b < w.heap.size + 1 + 1 + 1 := (Nat.lt_succ_of_lt (Nat.lt_succ_of_lt (Nat.lt_succ_of_lt hw.lies)))
  have y4_B0 : w.heap.size < w.heap.size + 1 + 1 + 1 := (Nat.lt_succ_of_lt (Nat.lt_succ_of_lt (Nat.lt_succ_self _)))
  have y4_B1 : w.heap.size + 1 < w.heap.size + 1 + 1 + 1 := (Nat.lt_succ_of_lt (Nat.lt_succ_self _))
  have y4_B2 : w.heap.size + 1 + 1 < w.heap.size + 1 + 1 + 1 := (Nat.lt_succ_self _)
  go_wp2_with (refine store_stop rfl (by kernel_rfl) ?_)
  refine Stop.mk (store_row (l' := row 49 (fun _ => 0)) rfl rfl rfl rfl (Arr_at _ _ (row 49 (fun _ => 0)) _ (by simp)) (by simp only [row_len]) (by rw [row_len]; kernel_rfl) (row_one _ _) ?_)
  intro w1 B3_1 o1
  have K1 : Kept b w w1 := Kept.off (((((Kept.refl b w).al _).al _).al _).al _) o1 (by omega)
  have BF_1 : Fl b false w1 := ((((hw.alloc _).alloc _).alloc _).alloc _).off o1 (Nat.ne_of_lt y4_BF)
  have B0_1 : Arr w.heap.size (row 49 (fun _ => 0)) w1 := ((((Arr_at _ _ (row 49 (fun _ => 0)) _ (by simp)).alloc _).alloc _).alloc _).off o1 (Nat.ne_of_lt y4_B0)
  have B1_1 : Arr (w.heap.size + 1) (row 49 (fun _ => 0)) w1 := (((Arr_at _ _ (row 49 (fun _ => 0)) _ (by simp)).alloc _).alloc _).off o1 (Nat.ne_of_lt y4_B1)
  have B2_1 : Arr (w.heap.size + 1 + 1) (row 49 (fun _ => 0)) w1 := ((Arr_at _ _ (row 49 (fun _ => 0)) _ (by simp)).alloc _).off o1 (Nat.ne_of_lt y4_B2)
  have z1_B3 := B3_1.lies
  have z1_BF := BF_1.lies
  have z1_B0 := B0_1.lies
  have z1_B1 := B1_1.lies
  have z1_B2 := B2_1.lies
  clear o1
  have y5_BF : b < w1.heap.size := BF_1.lies
  have y5_B0 : w.heap.size < w1.heap.size := B0_1.lies
  have y5_B1 : w.heap.size + 1 < w1.heap.size := B1_1.lies
  have y5_B2 : w.heap.size + 1 + 1 < w1.heap.size := B2_1.lies
  have y5_B3 : w.heap.size + 1 + 1 + 1 < w1.heap.size := B3_1.lies
  go_wp2_with (refine store_stop rfl (by kernel_rfl) ?_)
  refine Stop.mk (store_row (l' := row 49 (fun _ => 0)) rfl rfl rfl rfl (Arr_at _ _ (row 49 (fun _ => 0)) _ (by simp)) (by simp only [row_len]) (by rw [row_len]; kernel_rfl) (row_one _ _) ?_)
  intro w2 B4_2 o2
  have K2 : Kept b w w2 := Kept.off (K1.al _) o2 (by omega)
  have BF_2 : Fl b false w2 := (BF_1.alloc _).off o2 (Nat.ne_of_lt y5_BF)
  have B0_2 : Arr w.heap.size (row 49 (fun _ => 0)) w2 := (B0_1.alloc _).off o2 (Nat.ne_of_lt y5_B0)
  have B1_2 : Arr (w.heap.size + 1) (row 49 (fun _ => 0)) w2 := (B1_1.alloc _).off o2 (Nat.ne_of_lt y5_B1)
  have B2_2 : Arr (w.heap.size + 1 + 1) (row 49 (fun _ => 0)) w2 := (B2_1.alloc _).off o2 (Nat.ne_of_lt y5_B2)
  have B3_2 : Arr (w.heap.size + 1 + 1 + 1) (row 49 (fun _ => 0)) w2 := (B3_1.alloc _).off o2 (Nat.ne_of_lt y5_B3)
  have z2_B4 := B4_2.lies
  have z2_BF := BF_2.lies
  have z2_B0 := B0_2.lies
  have z2_B1 := B1_2.lies
  have z2_B2 := B2_2.lies
  have z2_B3 := B3_2.lies
  clear K1 BF_1 B0_1 B1_1 B2_1 B3_1 o2
  have y6_BF : b < w2.heap.size := BF_2.lies
  have y6_B0 : w.heap.size < w2.heap.size := B0_2.lies
  have y6_B1 : w.heap.size + 1 < w2.heap.size := B1_2.lies
  have y6_B2 : w.heap.size + 1 + 1 < w2.heap.size := B2_2.lies
  have y6_B3 : w.heap.size + 1 + 1 + 1 < w2.heap.size := B3_2.lies
  have y6_B4 : w1.heap.size < w2.heap.size := B4_2.lies
  go_wp2_with (refine store_stop rfl (by kernel_rfl) ?_)
  refine Stop.mk (store_row (l' := row 49 (fun _ => 0)) rfl rfl rfl rfl (Arr_at _ _ (row 49 (fun _ => 0)) _ (by simp)) (by simp only [row_len]) (by rw [row_len]; kernel_rfl) (row_one _ _) ?_)
  intro w3 B5_3 o3
  have K3 : Kept b w w3 := Kept.off (K2.al _) o3 (by omega)
  have BF_3 : Fl b false w3 := (BF_2.alloc _).off o3 (Nat.ne_of_lt y6_BF)
  have B0_3 : Arr w.heap.size (row 49 (fun _ => 0)) w3 := (B0_2.alloc _).off o3 (Nat.ne_of_lt y6_B0)
  have B1_3 : Arr (w.heap.size + 1) (row 49 (fun _ => 0)) w3 := (B1_2.alloc _).off o3 (Nat.ne_of_lt y6_B1)
  have B2_3 : Arr (w.heap.size + 1 + 1) (row 49 (fun _ => 0)) w3 := (B2_2.alloc _).off o3 (Nat.ne_of_lt y6_B2)
  have B3_3 : Arr (w.heap.size + 1 + 1 + 1) (row 49 (fun _ => 0)) w3 := (B3_2.alloc _).off o3 (Nat.ne_of_lt y6_B3)
  have B4_3 : Arr w1.heap.size (row 49 (fun _ => 0)) w3 := (B4_2.alloc _).off o3 (Nat.ne_of_lt y6_B4)
  have z3_B5 := B5_3.lies
  have z3_BF := BF_3.lies
  have z3_B0 := B0_3.lies
  have z3_B1 := B1_3.lies
  have z3_B2 := B2_3.lies
  have z3_B3 := B3_3.lies
  have z3_B4 := B4_3.lies
  clear K2 BF_2 B0_2 B1_2 B2_2 B3_2 B4_2 o3
  have c4_B3_0 : w3.cell? ⟨w.heap.size + 1 + 1 + 1, 0, none⟩ = some (.int .i64 ((fun _ => 0) 0)) := row_c B3_3 0 (by omega)
  have g4_B3_1 := row_f B3_3 0 (by omega)
  go_wp2_with fail
  clear c4_B3_0 g4_B3_1
  obtain ⟨J0, hJ0⟩ : ∃ J : Nat → Act → World → Prop, Hid (J = fun k a Wl0 => ∀ G_ : Prop, (∀ (t0_3 t0_4 t0_5 t0_13 t0_14 t0_15 t0_16 t0_17 t0_18 t0_19 t0_20 t0_21 t0_22 t0_23 t0_24 t0_25 t0_26 t0_27 t0_28 t0_29 t0_30 t0_31 t0_32 t0_33 t0_34 t0_35 t0_36 t0_37 t0_38 t0_39 t0_40 t0_41 t0_42 t0_43 t0_44 t0_45 t0_46 t0_47 t0_48 t0_49 t0_50 t0_51 t0_52 t0_53 t0_54 t0_55 t0_56 t0_57 t0_58 t0_59 t0_60 t0_61 t0_62 t0_63 t0_64 t0_65 t0_66 t0_67 t0_68 t0_69 t0_70 t0_71 t0_72 t0_73 t0_74 t0_75 t0_76 t0_77 t0_78 t0_79 t0_80 t0_81 t0_82 t0_83 t0_84 t0_85 t0_86 t0_87 t0_88 t0_89 t0_90 t0_91 t0_92 t0_93 t0_94 t0_95 t0_96 t0_97 t0_98 t0_99 t0_100 t0_101 t0_102 t0_103 t0_104 t0_105 t0_106 t0_107 t0_108 t0_109 t0_110 t0_111 t0_112 t0_113 t0_114 t0_115 t0_116 t0_117 t0_118 t0_119 t0_120 t0_121 t0_122 t0_123 t0_124 t0_125 t0_126 t0_127 t0_128 t0_129 t0_130 t0_131 t0_132 t0_133 t0_134 t0_135 t0_136 t0_137 t0_138 t0_139 t0_140 t0_141 t0_142 t0_143 t0_144 t0_145 t0_146 t0_147 t0_148 t0_149 t0_150 t0_151 t0_152 t0_153 t0_154 t0_155 t0_156 t0_157 t0_158 t0_159 t0_160 t0_161 t0_162 t0_163 t0_164 t0_165 t0_166 t0_167 t0_168 t0_169 t0_170 t0_171 t0_172 t0_173 t0_174 t0_175 t0_176 t0_177 t0_178 t0_179 t0_180 t0_181 t0_182 t0_183 t0_184 t0_185 t0_186 t0_187 t0_188 t0_189 t0_190 t0_191 t0_192 t0_193 t0_194 t0_195 t0_196 t0_197 t0_198 t0_199 t0_200 t0_201 t0_202 t0_203 t0_204 t0_205 t0_206 t0_207 t0_208 t0_209 t0_210 t0_211 t0_212 t0_213 t0_214 t0_215 t0_216 t0_217 t0_218 t0_219 t0_220 t0_221 t0_222 t0_223 t0_224 t0_225 t0_226 t0_227 t0_228 t0_229 t0_230 t0_231 t0_232 t0_233 t0_234 t0_235 t0_236 t0_237 t0_238 : Value), a = { tmps := #[.pointer (some ⟨b, 0, none⟩), .int .i64 c, .int .i64 s, t0_3, t0_4, t0_5, .pointer (some ⟨w.heap.size, 0, none⟩), .pointer (some ⟨w.heap.size + 1, 0, none⟩), .pointer (some ⟨w.heap.size + 1 + 1, 0, none⟩), .pointer (some ⟨w.heap.size + 1 + 1 + 1, 0, none⟩), .pointer (some ⟨w1.heap.size, 0, none⟩), .pointer (some ⟨w2.heap.size, 0, none⟩), .int .i64 ((k : Int) + 1), t0_13, t0_14, t0_15, t0_16, t0_17, t0_18, t0_19, t0_20, t0_21, t0_22, t0_23, t0_24, t0_25, t0_26, t0_27, t0_28, t0_29, t0_30, t0_31, t0_32, t0_33, t0_34, t0_35, t0_36, t0_37, t0_38, t0_39, t0_40, t0_41, t0_42, t0_43, t0_44, t0_45, t0_46, t0_47, t0_48, t0_49, t0_50, t0_51, t0_52, t0_53, t0_54, t0_55, t0_56, t0_57, t0_58, t0_59, t0_60, t0_61, t0_62, t0_63, t0_64, t0_65, t0_66, t0_67, t0_68, t0_69, t0_70, t0_71, t0_72, t0_73, t0_74, t0_75, t0_76, t0_77, t0_78, t0_79, t0_80, t0_81, t0_82, t0_83, t0_84, t0_85, t0_86, t0_87, t0_88, t0_89, t0_90, t0_91, t0_92, t0_93, t0_94, t0_95, t0_96, t0_97, t0_98, t0_99, t0_100, t0_101, t0_102, t0_103, t0_104, t0_105, t0_106, t0_107, t0_108, t0_109, t0_110, t0_111, t0_112, t0_113, t0_114, t0_115, t0_116, t0_117, t0_118, t0_119, t0_120, t0_121, t0_122, t0_123, t0_124, t0_125, t0_126, t0_127, t0_128, t0_129, t0_130, t0_131, t0_132, t0_133, t0_134, t0_135, t0_136, t0_137, t0_138, t0_139, t0_140, t0_141, t0_142, t0_143, t0_144, t0_145, t0_146, t0_147, t0_148, t0_149, t0_150, t0_151, t0_152, t0_153, t0_154, t0_155, t0_156, t0_157, t0_158, t0_159, t0_160, t0_161, t0_162, t0_163, t0_164, t0_165, t0_166, t0_167, t0_168, t0_169, t0_170, t0_171, t0_172, t0_173, t0_174, t0_175, t0_176, t0_177, t0_178, t0_179, t0_180, t0_181, t0_182, t0_183, t0_184, t0_185, t0_186, t0_187, t0_188, t0_189, t0_190, t0_191, t0_192, t0_193, t0_194, t0_195, t0_196, t0_197, t0_198, t0_199, t0_200, t0_201, t0_202, t0_203, t0_204, t0_205, t0_206, t0_207, t0_208, t0_209, t0_210, t0_211, t0_212, t0_213, t0_214, t0_215, t0_216, t0_217, t0_218, t0_219, t0_220, t0_221, t0_222, t0_223, t0_224, t0_225, t0_226, t0_227, t0_228, t0_229, t0_230, t0_231, t0_232, t0_233, t0_234, t0_235, t0_236, t0_237, t0_238], defers := [] } → Kept b w Wl0 → Fl b false Wl0 → Arr w.heap.size (row 49 (fun _ => 0)) Wl0 → Arr (w.heap.size + 1) (row 49 (fun _ => 0)) Wl0 → Arr (w.heap.size + 1 + 1) (row 49 (fun _ => 0)) Wl0 → Arr (w.heap.size + 1 + 1 + 1) (row 49 (triN P k 0)) Wl0 → Arr w1.heap.size (row 49 (triN D k 0)) Wl0 → Arr w2.heap.size (row 49 (triN Q k 0)) Wl0 → G_) → G_) := ⟨_, rfl⟩
  refine rounds_up J0 6 ?_ ?_ ?_
  · rw [hJ0.out]
    intro G_ hG_
    exact hG_ _ _ _ _ _ _ _ _ _ _ _ _ _ _ _ _ _ _ _ _ _ _ _ _ _ _ _ _ _ _ _ _ _ _ _ _ _ _ _ _ _ _ _ _ _ _ _ _ _ _ _ _ _ _ _ _ _ _ _ _ _ _ _ _ _ _ _ _ _ _ _ _ _ _ _ _ _ _ _ _ _ _ _ _ _ _ _ _ _ _ _ _ _ _ _ _ _ _ _ _ _ _ _ _ _ _ _ _ _ _ _ _ _ _ _ _ _ _ _ _ _ _ _ _ _ _ _ _ _ _ _ _ _ _ _ _ _ _ _ _ _ _ _ _ _ _ _ _ _ _ _ _ _ _ _ _ _ _ _ _ _ _ _ _ _ _ _ _ _ _ _ _ _ _ _ _ _ _ _ _ _ _ _ _ _ _ _ _ _ _ _ _ _ _ _ _ _ _ _ _ _ _ _ _ _ _ _ _ _ _ _ _ _ _ _ _ _ _ _ _ _ _ _ _ _ _ _ _ _ rfl (K3.new _ _ (by omega) _) (BF_3.new (w.heap.size + 1 + 1 + 1) 0 (Nat.ne_of_lt y4_BF) (.int .i64 1099511627776)) (B0_3.new (w.heap.size + 1 + 1 + 1) 0 (Nat.ne_of_lt y4_B0) (.int .i64 1099511627776)) (B1_3.new (w.heap.size + 1 + 1 + 1) 0 (Nat.ne_of_lt y4_B1) (.int .i64 1099511627776)) (B2_3.new (w.heap.size + 1 + 1 + 1) 0 (Nat.ne_of_lt y4_B2) (.int .i64 1099511627776)) (((row_put B3_3 0 (by omega) 1099511627776)).fn (triN_start P Z.p0)) (((B4_3.new (w.heap.size + 1 + 1 + 1) 0 (Nat.ne_of_gt y5_B3) (.int .i64 1099511627776))).fn (triN_zero D Z.d0)) (((B5_3.new (w.heap.size + 1 + 1 + 1) 0 (Nat.ne_of_gt y6_B3) (.int .i64 1099511627776))).fn (triN_zero Q Z.q0))
  · intro k a Wl0 hk hI R hR
    rw [hJ0.out] at hI
    refine hI _ ?_
    clear hI
    intro t0_3 t0_4 t0_5 t0_13 t0_14 t0_15 t0_16 t0_17 t0_18 t0_19 t0_20 t0_21 t0_22 t0_23 t0_24 t0_25 t0_26 t0_27 t0_28 t0_29 t0_30 t0_31 t0_32 t0_33 t0_34 t0_35 t0_36 t0_37 t0_38 t0_39 t0_40 t0_41 t0_42 t0_43 t0_44 t0_45 t0_46 t0_47 t0_48 t0_49 t0_50 t0_51 t0_52 t0_53 t0_54 t0_55 t0_56 t0_57 t0_58 t0_59 t0_60 t0_61 t0_62 t0_63 t0_64 t0_65 t0_66 t0_67 t0_68 t0_69 t0_70 t0_71 t0_72 t0_73 t0_74 t0_75 t0_76 t0_77 t0_78 t0_79 t0_80 t0_81 t0_82 t0_83 t0_84 t0_85 t0_86 t0_87 t0_88 t0_89 t0_90 t0_91 t0_92 t0_93 t0_94 t0_95 t0_96 t0_97 t0_98 t0_99 t0_100 t0_101 t0_102 t0_103 t0_104 t0_105 t0_106 t0_107 t0_108 t0_109 t0_110 t0_111 t0_112 t0_113 t0_114 t0_115 t0_116 t0_117 t0_118 t0_119 t0_120 t0_121 t0_122 t0_123 t0_124 t0_125 t0_126 t0_127 t0_128 t0_129 t0_130 t0_131 t0_132 t0_133 t0_134 t0_135 t0_136 t0_137 t0_138 t0_139 t0_140 t0_141 t0_142 t0_143 t0_144 t0_145 t0_146 t0_147 t0_148 t0_149 t0_150 t0_151 t0_152 t0_153 t0_154 t0_155 t0_156 t0_157 t0_158 t0_159 t0_160 t0_161 t0_162 t0_163 t0_164 t0_165 t0_166 t0_167 t0_168 t0_169 t0_170 t0_171 t0_172 t0_173 t0_174 t0_175 t0_176 t0_177 t0_178 t0_179 t0_180 t0_181 t0_182 t0_183 t0_184 t0_185 t0_186 t0_187 t0_188 t0_189 t0_190 t0_191 t0_192 t0_193 t0_194 t0_195 t0_196 t0_197 t0_198 t0_199 t0_200 t0_201 t0_202 t0_203 t0_204 t0_205 t0_206 t0_207 t0_208 t0_209 t0_210 t0_211 t0_212 t0_213 t0_214 t0_215 t0_216 t0_217 t0_218 t0_219 t0_220 t0_221 t0_222 t0_223 t0_224 t0_225 t0_226 t0_227 t0_228 t0_229 t0_230 t0_231 t0_232 t0_233 t0_234 t0_235 t0_236 t0_237 t0_238 ea Kl0 BF_l0 B0_l0 B1_l0 B2_l0 B3_l0 B4_l0 B5_l0
    subst ea
    have zl0_BF := BF_l0.lies
    have zl0_B0 := B0_l0.lies
    have zl0_B1 := B1_l0.lies
    have zl0_B2 := B2_l0.lies
    have zl0_B3 := B3_l0.lies
    have zl0_B4 := B4_l0.lies
    have zl0_B5 := B5_l0.lies
    obtain ⟨M, hM⟩ : ∃ M : Nat, k + 1 = M := ⟨_, rfl⟩
    have eM : (k : Int) + 1 = (M : Int) := by omega
    simp only [eM]
    have HM : Hid (k + 1 = M) := hM
    have hbM : k + 1 ≤ M := by omega
    have hcM : M ≤ k + 1 := by omega
    have e1 : (M : Int) - 1 = (k : Int) := by omega
    have triP_P : Hid (∀ m : Nat, m < M → updF (triN P k m) (M * 7 + m) (P M m) = triN P k (m + 1)) := fun m h => by subst hM; exact triN_put P h hk
    have triP_D : Hid (∀ m : Nat, m < M → updF (triN D k m) (M * 7 + m) (D M m) = triN D k (m + 1)) := fun m h => by subst hM; exact triN_put D h hk
    have triP_Q : Hid (∀ m : Nat, m < M → updF (triN Q k m) (M * 7 + m) (Q M m) = triN Q k (m + 1)) := fun m h => by subst hM; exact triN_put Q h hk
    clear hM eM
    go_wp2_with fail
    obtain ⟨J1, hJ1⟩ : ∃ J : Nat → Act → World → Prop, Hid (J = fun m a Wl1 => ∀ G_ : Prop, (∀ (t1_3 t1_4 t1_5 t1_14 t1_15 t1_16 t1_17 t1_18 t1_19 t1_20 t1_21 t1_22 t1_23 t1_24 t1_25 t1_26 t1_27 t1_28 t1_29 t1_30 t1_31 t1_32 t1_33 t1_34 t1_35 t1_36 t1_37 t1_38 t1_39 t1_40 t1_41 t1_42 t1_43 t1_44 t1_45 t1_46 t1_47 t1_48 t1_49 t1_50 t1_51 t1_52 t1_53 t1_54 t1_55 t1_56 t1_57 t1_58 t1_59 t1_60 t1_61 t1_62 t1_63 t1_64 t1_65 t1_66 t1_67 t1_68 t1_69 t1_70 t1_71 t1_72 t1_73 t1_74 t1_75 t1_76 t1_77 t1_78 t1_79 t1_80 t1_81 t1_82 t1_83 t1_84 t1_85 t1_86 t1_87 t1_88 t1_89 t1_90 t1_91 t1_92 t1_93 t1_94 t1_95 t1_96 t1_97 t1_98 t1_99 t1_100 t1_101 t1_102 t1_103 t1_104 t1_105 t1_106 t1_107 t1_108 t1_109 t1_110 t1_111 t1_112 t1_113 t1_114 t1_115 t1_116 t1_117 t1_118 t1_119 t1_120 t1_121 t1_122 t1_123 t1_124 t1_125 t1_126 t1_127 t1_128 t1_129 t1_130 t1_131 t1_132 t1_133 t1_134 t1_135 t1_136 t1_137 t1_138 t1_139 t1_140 t1_141 t1_142 t1_143 t1_144 t1_145 t1_146 t1_147 t1_148 t1_149 t1_150 t1_151 t1_152 t1_153 t1_154 t1_155 t1_156 t1_157 t1_158 t1_159 t1_160 t1_161 t1_162 t1_163 t1_164 t1_165 t1_166 t1_167 t1_168 t1_169 t1_170 t1_171 t1_172 t1_173 t1_174 t1_175 t1_176 t1_177 t1_178 t1_179 t1_180 t1_181 t1_182 t1_183 t1_184 t1_185 t1_186 t1_187 t1_188 t1_189 t1_190 t1_191 t1_192 t1_193 t1_194 t1_195 t1_196 t1_197 t1_198 t1_199 t1_200 t1_201 t1_202 t1_203 t1_204 t1_205 t1_206 t1_207 t1_208 t1_209 t1_210 t1_211 t1_212 t1_213 t1_214 t1_215 t1_216 t1_217 t1_218 t1_219 t1_220 t1_221 t1_222 t1_223 t1_224 t1_225 t1_226 t1_227 t1_228 t1_229 t1_230 t1_231 t1_232 t1_233 t1_234 t1_235 t1_236 t1_237 t1_238 : Value), a = { tmps := #[.pointer (some ⟨b, 0, none⟩), .int .i64 c, .int .i64 s, t1_3, t1_4, t1_5, .pointer (some ⟨w.heap.size, 0, none⟩), .pointer (some ⟨w.heap.size + 1, 0, none⟩), .pointer (some ⟨w.heap.size + 1 + 1, 0, none⟩), .pointer (some ⟨w.heap.size + 1 + 1 + 1, 0, none⟩), .pointer (some ⟨w1.heap.size, 0, none⟩), .pointer (some ⟨w2.heap.size, 0, none⟩), .int .i64 (M : Int), .int .i64 (m : Int), t1_14, t1_15, t1_16, t1_17, t1_18, t1_19, t1_20, t1_21, t1_22, t1_23, t1_24, t1_25, t1_26, t1_27, t1_28, t1_29, t1_30, t1_31, t1_32, t1_33, t1_34, t1_35, t1_36, t1_37, t1_38, t1_39, t1_40, t1_41, t1_42, t1_43, t1_44, t1_45, t1_46, t1_47, t1_48, t1_49, t1_50, t1_51, t1_52, t1_53, t1_54, t1_55, t1_56, t1_57, t1_58, t1_59, t1_60, t1_61, t1_62, t1_63, t1_64, t1_65, t1_66, t1_67, t1_68, t1_69, t1_70, t1_71, t1_72, t1_73, t1_74, t1_75, t1_76, t1_77, t1_78, t1_79, t1_80, t1_81, t1_82, t1_83, t1_84, t1_85, t1_86, t1_87, t1_88, t1_89, t1_90, t1_91, t1_92, t1_93, t1_94, t1_95, t1_96, t1_97, t1_98, t1_99, t1_100, t1_101, t1_102, t1_103, t1_104, t1_105, t1_106, t1_107, t1_108, t1_109, t1_110, t1_111, t1_112, t1_113, t1_114, t1_115, t1_116, t1_117, t1_118, t1_119, t1_120, t1_121, t1_122, t1_123, t1_124, t1_125, t1_126, t1_127, t1_128, t1_129, t1_130, t1_131, t1_132, t1_133, t1_134, t1_135, t1_136, t1_137, t1_138, t1_139, t1_140, t1_141, t1_142, t1_143, t1_144, t1_145, t1_146, t1_147, t1_148, t1_149, t1_150, t1_151, t1_152, t1_153, t1_154, t1_155, t1_156, t1_157, t1_158, t1_159, t1_160, t1_161, t1_162, t1_163, t1_164, t1_165, t1_166, t1_167, t1_168, t1_169, t1_170, t1_171, t1_172, t1_173, t1_174, t1_175, t1_176, t1_177, t1_178, t1_179, t1_180, t1_181, t1_182, t1_183, t1_184, t1_185, t1_186, t1_187, t1_188, t1_189, t1_190, t1_191, t1_192, t1_193, t1_194, t1_195, t1_196, t1_197, t1_198, t1_199, t1_200, t1_201, t1_202, t1_203, t1_204, t1_205, t1_206, t1_207, t1_208, t1_209, t1_210, t1_211, t1_212, t1_213, t1_214, t1_215, t1_216, t1_217, t1_218, t1_219, t1_220, t1_221, t1_222, t1_223, t1_224, t1_225, t1_226, t1_227, t1_228, t1_229, t1_230, t1_231, t1_232, t1_233, t1_234, t1_235, t1_236, t1_237, t1_238], defers := [] } → Kept b w Wl1 → Fl b false Wl1 → Arr w.heap.size (row 49 (fun _ => 0)) Wl1 → Arr (w.heap.size + 1) (row 49 (fun _ => 0)) Wl1 → Arr (w.heap.size + 1 + 1) (row 49 (fun _ => 0)) Wl1 → Arr (w.heap.size + 1 + 1 + 1) (row 49 (triN P k m)) Wl1 → Arr w1.heap.size (row 49 (triN D k m)) Wl1 → Arr w2.heap.size (row 49 (triN Q k m)) Wl1 → G_) → G_) := ⟨_, rfl⟩
    refine rounds_up J1 M ?_ ?_ ?_
    · rw [hJ1.out]
      intro G_ hG_
      exact hG_ _ _ _ _ _ _ _ _ _ _ _ _ _ _ _ _ _ _ _ _ _ _ _ _ _ _ _ _ _ _ _ _ _ _ _ _ _ _ _ _ _ _ _ _ _ _ _ _ _ _ _ _ _ _ _ _ _ _ _ _ _ _ _ _ _ _ _ _ _ _ _ _ _ _ _ _ _ _ _ _ _ _ _ _ _ _ _ _ _ _ _ _ _ _ _ _ _ _ _ _ _ _ _ _ _ _ _ _ _ _ _ _ _ _ _ _ _ _ _ _ _ _ _ _ _ _ _ _ _ _ _ _ _ _ _ _ _ _ _ _ _ _ _ _ _ _ _ _ _ _ _ _ _ _ _ _ _ _ _ _ _ _ _ _ _ _ _ _ _ _ _ _ _ _ _ _ _ _ _ _ _ _ _ _ _ _ _ _ _ _ _ _ _ _ _ _ _ _ _ _ _ _ _ _ _ _ _ _ _ _ _ _ _ _ _ _ _ _ _ _ _ _ _ _ _ _ _ _ rfl Kl0 BF_l0 B0_l0 B1_l0 B2_l0 B3_l0 B4_l0 B5_l0
    · intro m a Wl1 hm hI R hR
      rw [hJ1.out] at hI
      refine hI _ ?_
      clear hI
      intro t1_3 t1_4 t1_5 t1_14 t1_15 t1_16 t1_17 t1_18 t1_19 t1_20 t1_21 t1_22 t1_23 t1_24 t1_25 t1_26 t1_27 t1_28 t1_29 t1_30 t1_31 t1_32 t1_33 t1_34 t1_35 t1_36 t1_37 t1_38 t1_39 t1_40 t1_41 t1_42 t1_43 t1_44 t1_45 t1_46 t1_47 t1_48 t1_49 t1_50 t1_51 t1_52 t1_53 t1_54 t1_55 t1_56 t1_57 t1_58 t1_59 t1_60 t1_61 t1_62 t1_63 t1_64 t1_65 t1_66 t1_67 t1_68 t1_69 t1_70 t1_71 t1_72 t1_73 t1_74 t1_75 t1_76 t1_77 t1_78 t1_79 t1_80 t1_81 t1_82 t1_83 t1_84 t1_85 t1_86 t1_87 t1_88 t1_89 t1_90 t1_91 t1_92 t1_93 t1_94 t1_95 t1_96 t1_97 t1_98 t1_99 t1_100 t1_101 t1_102 t1_103 t1_104 t1_105 t1_106 t1_107 t1_108 t1_109 t1_110 t1_111 t1_112 t1_113 t1_114 t1_115 t1_116 t1_117 t1_118 t1_119 t1_120 t1_121 t1_122 t1_123 t1_124 t1_125 t1_126 t1_127 t1_128 t1_129 t1_130 t1_131 t1_132 t1_133 t1_134 t1_135 t1_136 t1_137 t1_138 t1_139 t1_140 t1_141 t1_142 t1_143 t1_144 t1_145 t1_146 t1_147 t1_148 t1_149 t1_150 t1_151 t1_152 t1_153 t1_154 t1_155 t1_156 t1_157 t1_158 t1_159 t1_160 t1_161 t1_162 t1_163 t1_164 t1_165 t1_166 t1_167 t1_168 t1_169 t1_170 t1_171 t1_172 t1_173 t1_174 t1_175 t1_176 t1_177 t1_178 t1_179 t1_180 t1_181 t1_182 t1_183 t1_184 t1_185 t1_186 t1_187 t1_188 t1_189 t1_190 t1_191 t1_192 t1_193 t1_194 t1_195 t1_196 t1_197 t1_198 t1_199 t1_200 t1_201 t1_202 t1_203 t1_204 t1_205 t1_206 t1_207 t1_208 t1_209 t1_210 t1_211 t1_212 t1_213 t1_214 t1_215 t1_216 t1_217 t1_218 t1_219 t1_220 t1_221 t1_222 t1_223 t1_224 t1_225 t1_226 t1_227 t1_228 t1_229 t1_230 t1_231 t1_232 t1_233 t1_234 t1_235 t1_236 t1_237 t1_238 ea Kl1 BF_l1 B0_l1 B1_l1 B2_l1 B3_l1 B4_l1 B5_l1
      subst ea
      have zl1_BF := BF_l1.lies
      have zl1_B0 := B0_l1.lies
      have zl1_B1 := B1_l1.lies
      have zl1_B2 := B2_l1.lies
      have zl1_B3 := B3_l1.lies
      have zl1_B4 := B4_l1.lies
      have zl1_B5 := B5_l1.lies
      have hm1 : m < k + 1 := by omega
      have R := Z.R k m hk hm1
      have T := Z.T k m hk hm1
      have U := Z.U k m hk hm1
      rw [HM.out, ← triN_last P hm1 hk, ← triN_last D hm1 hk] at T
      rw [HM.out, ← triN_last Q hm1 hk] at U
      have eMi : (k : Int) + 1 = (M : Int) := by omega
      rw [eMi] at R
      clear eMi
      have hR2 := R.h2
      rw [e1] at hR2
      have hs6 : mulS false s (updF (triN P k m) (M * 7 + m) (P M m) (k * 7 + m)) = (T.v6, false) := by rw [show updF (triN P k m) (M * 7 + m) (P M m) (k * 7 + m) = triN P k m (k * 7 + m) from if_neg (by omega)]; exact T.h6
      go_wp2_with fail
      refine (rk_any b false (M : Int) (m : Int) _ BF_l1 (by omega) (by omega) (by omega) (by omega)).mono ?_
      rintro e w4 ⟨rfl, f4, k4⟩
      rw [R.h1] at f4 ⊢
      dsimp only at f4 ⊢
      have K4 : Kept b w w4 := Kept.trans Kl1 k4
      have B0_4 : Arr w.heap.size (row 49 (fun _ => 0)) w4 := B0_l1.kept k4 (Nat.ne_of_gt y1_BF)
      have B1_4 : Arr (w.heap.size + 1) (row 49 (fun _ => 0)) w4 := B1_l1.kept k4 (Nat.ne_of_gt y2_BF)
      have B2_4 : Arr (w.heap.size + 1 + 1) (row 49 (fun _ => 0)) w4 := B2_l1.kept k4 (Nat.ne_of_gt y3_BF)
      have B3_4 : Arr (w.heap.size + 1 + 1 + 1) (row 49 (triN P k m)) w4 := B3_l1.kept k4 (Nat.ne_of_gt y4_BF)
      have B4_4 : Arr w1.heap.size (row 49 (triN D k m)) w4 := B4_l1.kept k4 (Nat.ne_of_gt y5_BF)
      have B5_4 : Arr w2.heap.size (row 49 (triN Q k m)) w4 := B5_l1.kept k4 (Nat.ne_of_gt y6_BF)
      have z4 := B5_4.lies
      clear BF_l1 B0_l1 B1_l1 B2_l1 B3_l1 B4_l1 B5_l1 k4
      go_wp2_with fail
      refine (rk_any b false (k : Int) (m : Int) _ f4 (by omega) (by omega) (by omega) (by omega)).mono ?_
      rintro e w5 ⟨rfl, f5, k5⟩
      rw [hR2] at f5 ⊢
      dsimp only at f5 ⊢
      have K5 : Kept b w w5 := Kept.trans K4 k5
      have B0_5 : Arr w.heap.size (row 49 (fun _ => 0)) w5 := B0_4.kept k5 (Nat.ne_of_gt y1_BF)
      have B1_5 : Arr (w.heap.size + 1) (row 49 (fun _ => 0)) w5 := B1_4.kept k5 (Nat.ne_of_gt y2_BF)
      have B2_5 : Arr (w.heap.size + 1 + 1) (row 49 (fun _ => 0)) w5 := B2_4.kept k5 (Nat.ne_of_gt y3_BF)
      have B3_5 : Arr (w.heap.size + 1 + 1 + 1) (row 49 (triN P k m)) w5 := B3_4.kept k5 (Nat.ne_of_gt y4_BF)
      have B4_5 : Arr w1.heap.size (row 49 (triN D k m)) w5 := B4_4.kept k5 (Nat.ne_of_gt y5_BF)
      have B5_5 : Arr w2.heap.size (row 49 (triN Q k m)) w5 := B5_4.kept k5 (Nat.ne_of_gt y6_BF)
      have z5 := B5_5.lies
      clear K4 f4 B0_4 B1_4 B2_4 B3_4 B4_4 B5_4 k5
      go_wp2_with fail
      refine (rDiv_any b false R.k2 R.k1 _ f5).mono ?_
      rintro e w6 ⟨rfl, f6, k6⟩
      rw [R.h3] at f6 ⊢
      dsimp only at f6 ⊢
      have K6 : Kept b w w6 := Kept.trans K5 k6
      have B0_6 : Arr w.heap.size (row 49 (fun _ => 0)) w6 := B0_5.kept k6 (Nat.ne_of_gt y1_BF)
      have B1_6 : Arr (w.heap.size + 1) (row 49 (fun _ => 0)) w6 := B1_5.kept k6 (Nat.ne_of_gt y2_BF)
      have B2_6 : Arr (w.heap.size + 1 + 1) (row 49 (fun _ => 0)) w6 := B2_5.kept k6 (Nat.ne_of_gt y3_BF)
      have B3_6 : Arr (w.heap.size + 1 + 1 + 1) (row 49 (triN P k m)) w6 := B3_5.kept k6 (Nat.ne_of_gt y4_BF)
      have B4_6 : Arr w1.heap.size (row 49 (triN D k m)) w6 := B4_5.kept k6 (Nat.ne_of_gt y5_BF)
      have B5_6 : Arr w2.heap.size (row 49 (triN Q k m)) w6 := B5_5.kept k6 (Nat.ne_of_gt y6_BF)
      have z6 := B5_6.lies
      clear K5 f5 B0_5 B1_5 B2_5 B3_5 B4_5 B5_5 k6
      go_wp2_with fail
      refine (rPart_any b false 1099511627776 ((2 * (M : Int)) - 1) 1 _ f6).mono ?_
      rintro e w7 ⟨rfl, f7, k7⟩
      rw [R.h4] at f7 ⊢
      dsimp only at f7 ⊢
      have K7 : Kept b w w7 := Kept.trans K6 k7
      have B0_7 : Arr w.heap.size (row 49 (fun _ => 0)) w7 := B0_6.kept k7 (Nat.ne_of_gt y1_BF)
      have B1_7 : Arr (w.heap.size + 1) (row 49 (fun _ => 0)) w7 := B1_6.kept k7 (Nat.ne_of_gt y2_BF)
      have B2_7 : Arr (w.heap.size + 1 + 1) (row 49 (fun _ => 0)) w7 := B2_6.kept k7 (Nat.ne_of_gt y3_BF)
      have B3_7 : Arr (w.heap.size + 1 + 1 + 1) (row 49 (triN P k m)) w7 := B3_6.kept k7 (Nat.ne_of_gt y4_BF)
      have B4_7 : Arr w1.heap.size (row 49 (triN D k m)) w7 := B4_6.kept k7 (Nat.ne_of_gt y5_BF)
      have B5_7 : Arr w2.heap.size (row 49 (triN Q k m)) w7 := B5_6.kept k7 (Nat.ne_of_gt y6_BF)
      have z7 := B5_7.lies
      clear K6 f6 B0_6 B1_6 B2_6 B3_6 B4_6 B5_6 k7
      go_wp2_with fail
      refine (rDiv_any b false R.p R.k1 _ f7).mono ?_
      rintro e w8 ⟨rfl, f8, k8⟩
      rw [R.h5] at f8 ⊢
      dsimp only at f8 ⊢
      have K8 : Kept b w w8 := Kept.trans K7 k8
      have B0_8 : Arr w.heap.size (row 49 (fun _ => 0)) w8 := B0_7.kept k8 (Nat.ne_of_gt y1_BF)
      have B1_8 : Arr (w.heap.size + 1) (row 49 (fun _ => 0)) w8 := B1_7.kept k8 (Nat.ne_of_gt y2_BF)
      have B2_8 : Arr (w.heap.size + 1 + 1) (row 49 (fun _ => 0)) w8 := B2_7.kept k8 (Nat.ne_of_gt y3_BF)
      have B3_8 : Arr (w.heap.size + 1 + 1 + 1) (row 49 (triN P k m)) w8 := B3_7.kept k8 (Nat.ne_of_gt y4_BF)
      have B4_8 : Arr w1.heap.size (row 49 (triN D k m)) w8 := B4_7.kept k8 (Nat.ne_of_gt y5_BF)
      have B5_8 : Arr w2.heap.size (row 49 (triN Q k m)) w8 := B5_7.kept k8 (Nat.ne_of_gt y6_BF)
      have z8 := B5_8.lies
      clear K7 f7 B0_7 B1_7 B2_7 B3_7 B4_7 B5_7 k8
      by_cases hc1 : (M : Int) ≥ 2
      · have Hhc1 : Hid ((M : Int) ≥ 2) := hc1
        obtain ⟨j, hj⟩ : ∃ j : Nat, Hid (k = j + 1) := ⟨k - 1, by have := Hhc1.out; show _ = _; omega⟩
        have e2 : (M : Int) - 2 = (j : Int) := by have := hj.out; omega
        have hj1 : j + 1 ≤ k := by have := hj.out; omega
        have hj2 : k ≤ j + 1 := by have := hj.out; omega
        have hloP : mulS false (Z.ga k m) (triN P k m (j * 7 + m)) = (T.v3, false) := by rw [triN_other P hm1 hk hj.out]; exact T.h3
        have hloD : mulS false (Z.ga k m) (triN D k m (j * 7 + m)) = (T.v9, false) := by rw [triN_other D hm1 hk hj.out]; exact T.h9
        have hloQ : mulS false (Z.ga k m) (triN Q k m (j * 7 + m)) = (U.v3, false) := by rw [triN_other Q hm1 hk hj.out]; exact U.h3
        have c11_B3_0 : w8.cell? ⟨w.heap.size + 1 + 1 + 1, j * 7 + m, none⟩ = some (.int .i64 ((triN P k m) (j * 7 + m))) := row_c B3_8 (j * 7 + m) (by omega)
        have c11_B4_1 : w8.cell? ⟨w1.heap.size, j * 7 + m, none⟩ = some (.int .i64 ((triN D k m) (j * 7 + m))) := row_c B4_8 (j * 7 + m) (by omega)
        have c11_B5_2 : w8.cell? ⟨w2.heap.size, j * 7 + m, none⟩ = some (.int .i64 ((triN Q k m) (j * 7 + m))) := row_c B5_8 (j * 7 + m) (by omega)
        have i11_3 : (j : Int) < 7 := by omega
        have i11_4 : (m : Int) < 7 := by omega
        go_wp2_with fail
        clear c11_B3_0 c11_B4_1 c11_B5_2 i11_3 i11_4
        refine wp_region_held_drew (S := fun w' => NearR (w.heap.size + 1 + 1 + 1) 49 (triN P k m) (M * 7 + m) w') (by kernel_rfl) (NearR.same B3_8.drew) (fun hHeld => ?_)
        refine take_at (i := 0) (v := ?v1) rfl (by kernel_rfl) (by kernel_rfl) (by kernel_rfl) (fun _ _ _ h => h) (Or.inl ⟨by rfl, ?y1⟩) hHeld ?t1
        case y1 => (intro wx hSw; go_simp <;> with_reducible rfl)
        simp only [Act.put, List.setIfInBounds_toArray, List.set_cons_zero, List.set_cons_succ]
        refine take_at (i := 1) (v := ?v2) rfl (by kernel_rfl) (by kernel_rfl) (by kernel_rfl) (fun _ _ _ h => h) (Or.inl ⟨by rfl, ?y2⟩) hHeld ?t2
        case y2 => (intro wx hSw; go_simp <;> with_reducible rfl)
        simp only [Act.put, List.setIfInBounds_toArray, List.set_cons_zero, List.set_cons_succ]
        refine take_at (i := 2) (v := ?v3) rfl (by kernel_rfl) (by kernel_rfl) (by kernel_rfl) (fun _ _ _ h => h) (Or.inl ⟨by rfl, ?y3⟩) hHeld ?t3
        case y3 => (intro wx hSw; go_simp <;> with_reducible rfl)
        simp only [Act.put, List.setIfInBounds_toArray, List.set_cons_zero, List.set_cons_succ]
        refine take_at (i := 3) (v := ?v4) rfl (by kernel_rfl) (by kernel_rfl) (by kernel_rfl) (fun _ _ _ h => h) (Or.inl ⟨by rfl, ?y4⟩) hHeld ?t4
        case y4 => (intro wx hSw; go_simp <;> with_reducible rfl)
        simp only [Act.put, List.setIfInBounds_toArray, List.set_cons_zero, List.set_cons_succ]
        refine take_at (i := 4) (v := ?v5) rfl (by kernel_rfl) (by kernel_rfl) (by kernel_rfl) (fun _ _ _ h => h) (Or.inl ⟨by rfl, ?y5⟩) hHeld ?t5
        case y5 => (intro wx hSw; go_simp <;> with_reducible rfl)
        simp only [Act.put, List.setIfInBounds_toArray, List.set_cons_zero, List.set_cons_succ]
        refine take_at (i := 5) (v := ?v6) rfl (by kernel_rfl) (by kernel_rfl) (by kernel_rfl) (fun _ _ _ h => h) (Or.inl ⟨by rfl, ?y6⟩) hHeld ?t6
        case y6 => (intro wx hSw; go_simp <;> with_reducible rfl)
        simp only [Act.put, List.setIfInBounds_toArray, List.set_cons_zero, List.set_cons_succ]
        refine take_at (i := 6) (v := ?v7) rfl (by kernel_rfl) (by kernel_rfl) (by kernel_rfl) (fun _ _ _ h => h) (Or.inl ⟨by rfl, ?y7⟩) hHeld ?t7
        case y7 => (intro wx hSw; go_simp <;> with_reducible rfl)
        simp only [Act.put, List.setIfInBounds_toArray, List.set_cons_zero, List.set_cons_succ]
        refine take_at (i := 7) (v := ?v8) rfl (by kernel_rfl) (by kernel_rfl) (by kernel_rfl) (fun _ _ _ h => h) (Or.inl ⟨by rfl, ?y8⟩) hHeld ?t8
        case y8 => (intro wx hSw; go_simp <;> with_reducible rfl)
        simp only [Act.put, List.setIfInBounds_toArray, List.set_cons_zero, List.set_cons_succ]
        refine take_at (i := 8) (v := ?v9) rfl (by kernel_rfl) (by kernel_rfl) (by kernel_rfl) (fun _ _ _ h => h) (Or.inl ⟨by rfl, ?y9⟩) hHeld ?t9
        case y9 => (intro wx hSw; go_simp <;> with_reducible rfl)
        simp only [Act.put, List.setIfInBounds_toArray, List.set_cons_zero, List.set_cons_succ]
        rw [IntWalk.i64_in (k : Int) (by omega)]
        refine take_at (i := 9) (v := ?v10) rfl (by kernel_rfl) (by kernel_rfl) (by kernel_rfl) (fun _ _ _ h => h) (Or.inl ⟨by rfl, ?y10⟩) hHeld ?t10
        case y10 => (intro wx hSw; go_simp <;> with_reducible rfl)
        simp only [Act.put, List.setIfInBounds_toArray, List.set_cons_zero, List.set_cons_succ]
        refine take_at (i := 10) (v := ?v11) rfl (by kernel_rfl) (by kernel_rfl) (by kernel_rfl) (fun _ _ _ h => h) (Or.inl ⟨by rfl, ?y11⟩) hHeld ?t11
        case y11 => (intro wx hSw; have hi0 : (k : Int) < 7 := (by omega); go_simp <;> with_reducible rfl)
        simp only [Act.put, List.setIfInBounds_toArray, List.set_cons_zero, List.set_cons_succ]
        refine take_at (i := 11) (v := ?v12) rfl (by kernel_rfl) (by kernel_rfl) (by kernel_rfl) (fun _ _ _ h => h) (Or.inl ⟨by rfl, ?y12⟩) hHeld ?t12
        case y12 => (intro wx hSw; have hi0 : (m : Int) < 7 := (by omega); go_simp <;> with_reducible rfl)
        simp only [Act.put, List.setIfInBounds_toArray, List.set_cons_zero, List.set_cons_succ]
        refine take_at (i := 12) (v := ?v13) rfl (by kernel_rfl) (by kernel_rfl) (by kernel_rfl) (fun _ _ _ h => h) (Or.inl ⟨by rfl, ?y13⟩) hHeld ?t13
        case y13 => (intro wx hSw; have hc0 : wx.cell? ⟨w.heap.size + 1 + 1 + 1, k * 7 + m, none⟩ = some (.int .i64 ((triN P k m) (k * 7 + m))) := near_c hSw (k * 7 + m) (by omega) (by omega); go_simp <;> with_reducible rfl)
        simp only [Act.put, List.setIfInBounds_toArray, List.set_cons_zero, List.set_cons_succ]
        refine take_at (i := 15) (v := ?v14) rfl (by kernel_rfl) (by kernel_rfl) (by kernel_rfl) (fun _ _ _ h => h) (Or.inl ⟨by rfl, ?y14⟩) hHeld ?t14
        case y14 => (intro wx hSw; go_simp <;> with_reducible rfl)
        simp only [Act.put, List.setIfInBounds_toArray, List.set_cons_zero, List.set_cons_succ]
        refine take_at (i := 16) (v := ?v15) rfl (by kernel_rfl) (by kernel_rfl) (by kernel_rfl) (fun _ _ _ h => h) (Or.inl ⟨by rfl, ?y15⟩) hHeld ?t15
        case y15 => (intro wx hSw; go_simp <;> with_reducible rfl)
        simp only [Act.put, List.setIfInBounds_toArray, List.set_cons_zero, List.set_cons_succ]
        refine take_at (i := 17) (v := ?v16) rfl (by kernel_rfl) (by kernel_rfl) (by kernel_rfl) (fun _ _ _ h => h) (Or.inl ⟨by rfl, ?y16⟩) hHeld ?t16
        case y16 => (intro wx hSw; go_simp <;> with_reducible rfl)
        simp only [Act.put, List.setIfInBounds_toArray, List.set_cons_zero, List.set_cons_succ]
        refine take_at (i := 20) (v := ?v17) rfl (by kernel_rfl) (by kernel_rfl) (by kernel_rfl) (fun _ _ _ h => h) (Or.inl ⟨by rfl, ?y17⟩) hHeld ?t17
        case y17 => (intro wx hSw; have hi0 : (M : Int) < 7 := (by omega); go_simp <;> with_reducible rfl)
        simp only [Act.put, List.setIfInBounds_toArray, List.set_cons_zero, List.set_cons_succ]
        refine call_at (i := 13) (by kernel_rfl) rfl (fun K hK => ?_)
        go_simp
        refine (rMul_any b false c ((triN P k m) (k * 7 + m)) _ f8.drew).mono ?_
        rintro e w9 ⟨rfl, f9, k9⟩
        rw [T.h1] at f9 ⊢
        dsimp only at f9 ⊢
        have K9 : Kept b w w9 := Kept.trans K8.drew k9
        have B0_9 : Arr w.heap.size (row 49 (fun _ => 0)) w9 := B0_8.drew.kept k9 (Nat.ne_of_gt y1_BF)
        have B1_9 : Arr (w.heap.size + 1) (row 49 (fun _ => 0)) w9 := B1_8.drew.kept k9 (Nat.ne_of_gt y2_BF)
        have B2_9 : Arr (w.heap.size + 1 + 1) (row 49 (fun _ => 0)) w9 := B2_8.drew.kept k9 (Nat.ne_of_gt y3_BF)
        have B3_9 : Arr (w.heap.size + 1 + 1 + 1) (row 49 (triN P k m)) w9 := B3_8.drew.kept k9 (Nat.ne_of_gt y4_BF)
        have B4_9 : Arr w1.heap.size (row 49 (triN D k m)) w9 := B4_8.drew.kept k9 (Nat.ne_of_gt y5_BF)
        have B5_9 : Arr w2.heap.size (row 49 (triN Q k m)) w9 := B5_8.drew.kept k9 (Nat.ne_of_gt y6_BF)
        have z9 := B5_9.lies
        clear hHeld
        refine hK.out _ _ (NearR.same B3_9) (fun hHeld => ?_)
        clear hK K K8 f8 B0_8 B1_8 B2_8 B3_8 B4_8 B5_8 k9
        refine call_at (i := 14) (by kernel_rfl) rfl (fun K hK => ?_)
        go_simp
        refine (rMul_any b false (Z.gb k m) T.v1 _ f9).mono ?_
        rintro e w10 ⟨rfl, f10, k10⟩
        rw [T.h2] at f10 ⊢
        dsimp only at f10 ⊢
        have K10 : Kept b w w10 := Kept.trans K9 k10
        have B0_10 : Arr w.heap.size (row 49 (fun _ => 0)) w10 := B0_9.kept k10 (Nat.ne_of_gt y1_BF)
        have B1_10 : Arr (w.heap.size + 1) (row 49 (fun _ => 0)) w10 := B1_9.kept k10 (Nat.ne_of_gt y2_BF)
        have B2_10 : Arr (w.heap.size + 1 + 1) (row 49 (fun _ => 0)) w10 := B2_9.kept k10 (Nat.ne_of_gt y3_BF)
        have B3_10 : Arr (w.heap.size + 1 + 1 + 1) (row 49 (triN P k m)) w10 := B3_9.kept k10 (Nat.ne_of_gt y4_BF)
        have B4_10 : Arr w1.heap.size (row 49 (triN D k m)) w10 := B4_9.kept k10 (Nat.ne_of_gt y5_BF)
        have B5_10 : Arr w2.heap.size (row 49 (triN Q k m)) w10 := B5_9.kept k10 (Nat.ne_of_gt y6_BF)
        have z10 := B5_10.lies
        clear hHeld
        refine hK.out _ _ (NearR.same B3_10) (fun hHeld => ?_)
        clear hK K K9 f9 B0_9 B1_9 B2_9 B3_9 B4_9 B5_9 k10
        refine call_at (i := 18) (by kernel_rfl) rfl (fun K hK => ?_)
        go_simp
        refine (rMul_any b false (Z.ga k m) ((triN P k m) (j * 7 + m)) _ f10).mono ?_
        rintro e w11 ⟨rfl, f11, k11⟩
        rw [hloP] at f11 ⊢
        dsimp only at f11 ⊢
        have K11 : Kept b w w11 := Kept.trans K10 k11
        have B0_11 : Arr w.heap.size (row 49 (fun _ => 0)) w11 := B0_10.kept k11 (Nat.ne_of_gt y1_BF)
        have B1_11 : Arr (w.heap.size + 1) (row 49 (fun _ => 0)) w11 := B1_10.kept k11 (Nat.ne_of_gt y2_BF)
        have B2_11 : Arr (w.heap.size + 1 + 1) (row 49 (fun _ => 0)) w11 := B2_10.kept k11 (Nat.ne_of_gt y3_BF)
        have B3_11 : Arr (w.heap.size + 1 + 1 + 1) (row 49 (triN P k m)) w11 := B3_10.kept k11 (Nat.ne_of_gt y4_BF)
        have B4_11 : Arr w1.heap.size (row 49 (triN D k m)) w11 := B4_10.kept k11 (Nat.ne_of_gt y5_BF)
        have B5_11 : Arr w2.heap.size (row 49 (triN Q k m)) w11 := B5_10.kept k11 (Nat.ne_of_gt y6_BF)
        have z11 := B5_11.lies
        clear hHeld
        refine hK.out _ _ (NearR.same B3_11) (fun hHeld => ?_)
        clear hK K K10 f10 B0_10 B1_10 B2_10 B3_10 B4_10 B5_10 k11
        refine call_at (i := 19) (by kernel_rfl) rfl (fun K hK => ?_)
        go_simp
        refine (rSub_any b false T.v2 T.v3 _ f11).mono ?_
        rintro e w12 ⟨rfl, f12, k12⟩
        rw [T.h4] at f12 ⊢
        dsimp only at f12 ⊢
        have K12 : Kept b w w12 := Kept.trans K11 k12
        have B0_12 : Arr w.heap.size (row 49 (fun _ => 0)) w12 := B0_11.kept k12 (Nat.ne_of_gt y1_BF)
        have B1_12 : Arr (w.heap.size + 1) (row 49 (fun _ => 0)) w12 := B1_11.kept k12 (Nat.ne_of_gt y2_BF)
        have B2_12 : Arr (w.heap.size + 1 + 1) (row 49 (fun _ => 0)) w12 := B2_11.kept k12 (Nat.ne_of_gt y3_BF)
        have B3_12 : Arr (w.heap.size + 1 + 1 + 1) (row 49 (triN P k m)) w12 := B3_11.kept k12 (Nat.ne_of_gt y4_BF)
        have B4_12 : Arr w1.heap.size (row 49 (triN D k m)) w12 := B4_11.kept k12 (Nat.ne_of_gt y5_BF)
        have B5_12 : Arr w2.heap.size (row 49 (triN Q k m)) w12 := B5_11.kept k12 (Nat.ne_of_gt y6_BF)
        have z12 := B5_12.lies
        clear hHeld
        refine hK.out _ _ (NearR.same B3_12) (fun hHeld => ?_)
        clear hK K K11 f11 B0_11 B1_11 B2_11 B3_11 B4_11 B5_11 k12
        refine take_at (i := 21) (v := ?v18) rfl (by kernel_rfl) (by kernel_rfl) (by kernel_rfl) (fun _ _ _ h => h) (Or.inl ⟨by rfl, ?y18⟩) hHeld ?t18
        case y18 => (intro wx hSw; have hi0 : (m : Int) < 7 := (by omega); go_simp <;> with_reducible rfl)
        simp only [Act.put, List.setIfInBounds_toArray, List.set_cons_zero, List.set_cons_succ]
        refine call_at (i := 22) (by kernel_rfl) rfl (fun K hK => ?_)
        have c12_B3_0 : w12.cell? ⟨w.heap.size + 1 + 1 + 1, M * 7 + m, none⟩ = some (.int .i64 ((triN P k m) (M * 7 + m))) := row_c B3_12 (M * 7 + m) (by omega)
        have g12_B3_1 := row_f B3_12 (M * 7 + m) (by omega)
        go_simp
        clear hHeld
        refine hK.out _ _ (NearR.upd (row_put B3_12 (M * 7 + m) (by omega) (P M m))) (fun hHeld => ?_)
        clear hK K c12_B3_0 g12_B3_1
        refine wpAnyH_done (by kernel_rfl) ?_ _
        clear hHeld
        go_wp2_with fail
        refine wp_region_held_drew (S := fun w' => NearR w1.heap.size 49 (triN D k m) (M * 7 + m) w' ∧ Arr (w.heap.size + 1 + 1 + 1) (row 49 (updF (triN P k m) (M * 7 + m) (P M m))) w') (by kernel_rfl) ⟨(NearR.same (B4_12.new (w.heap.size + 1 + 1 + 1) (M * 7 + m) (Nat.ne_of_gt y5_B3) (.int .i64 (P M m))).drew), (row_put B3_12 (M * 7 + m) (by omega) (P M m)).drew⟩ (fun hHeld => ?_)
        refine take_at (i := 0) (v := ?v19) rfl (by kernel_rfl) (by kernel_rfl) (by kernel_rfl) (fun _ _ _ h => h) (Or.inl ⟨by rfl, ?y19⟩) hHeld ?t19
        case y19 => (intro wx hSw; go_simp <;> with_reducible rfl)
        simp only [Act.put, List.setIfInBounds_toArray, List.set_cons_zero, List.set_cons_succ]
        refine take_at (i := 1) (v := ?v20) rfl (by kernel_rfl) (by kernel_rfl) (by kernel_rfl) (fun _ _ _ h => h) (Or.inl ⟨by rfl, ?y20⟩) hHeld ?t20
        case y20 => (intro wx hSw; go_simp <;> with_reducible rfl)
        simp only [Act.put, List.setIfInBounds_toArray, List.set_cons_zero, List.set_cons_succ]
        refine take_at (i := 2) (v := ?v21) rfl (by kernel_rfl) (by kernel_rfl) (by kernel_rfl) (fun _ _ _ h => h) (Or.inl ⟨by rfl, ?y21⟩) hHeld ?t21
        case y21 => (intro wx hSw; go_simp <;> with_reducible rfl)
        simp only [Act.put, List.setIfInBounds_toArray, List.set_cons_zero, List.set_cons_succ]
        refine take_at (i := 3) (v := ?v22) rfl (by kernel_rfl) (by kernel_rfl) (by kernel_rfl) (fun _ _ _ h => h) (Or.inl ⟨by rfl, ?y22⟩) hHeld ?t22
        case y22 => (intro wx hSw; go_simp <;> with_reducible rfl)
        simp only [Act.put, List.setIfInBounds_toArray, List.set_cons_zero, List.set_cons_succ]
        refine take_at (i := 4) (v := ?v23) rfl (by kernel_rfl) (by kernel_rfl) (by kernel_rfl) (fun _ _ _ h => h) (Or.inl ⟨by rfl, ?y23⟩) hHeld ?t23
        case y23 => (intro wx hSw; go_simp <;> with_reducible rfl)
        simp only [Act.put, List.setIfInBounds_toArray, List.set_cons_zero, List.set_cons_succ]
        refine take_at (i := 5) (v := ?v24) rfl (by kernel_rfl) (by kernel_rfl) (by kernel_rfl) (fun _ _ _ h => h) (Or.inl ⟨by rfl, ?y24⟩) hHeld ?t24
        case y24 => (intro wx hSw; go_simp <;> with_reducible rfl)
        simp only [Act.put, List.setIfInBounds_toArray, List.set_cons_zero, List.set_cons_succ]
        refine take_at (i := 6) (v := ?v25) rfl (by kernel_rfl) (by kernel_rfl) (by kernel_rfl) (fun _ _ _ h => h) (Or.inl ⟨by rfl, ?y25⟩) hHeld ?t25
        case y25 => (intro wx hSw; go_simp <;> with_reducible rfl)
        simp only [Act.put, List.setIfInBounds_toArray, List.set_cons_zero, List.set_cons_succ]
        refine take_at (i := 7) (v := ?v26) rfl (by kernel_rfl) (by kernel_rfl) (by kernel_rfl) (fun _ _ _ h => h) (Or.inl ⟨by rfl, ?y26⟩) hHeld ?t26
        case y26 => (intro wx hSw; go_simp <;> with_reducible rfl)
        simp only [Act.put, List.setIfInBounds_toArray, List.set_cons_zero, List.set_cons_succ]
        refine take_at (i := 8) (v := ?v27) rfl (by kernel_rfl) (by kernel_rfl) (by kernel_rfl) (fun _ _ _ h => h) (Or.inl ⟨by rfl, ?y27⟩) hHeld ?t27
        case y27 => (intro wx hSw; go_simp <;> with_reducible rfl)
        simp only [Act.put, List.setIfInBounds_toArray, List.set_cons_zero, List.set_cons_succ]
        refine take_at (i := 9) (v := ?v28) rfl (by kernel_rfl) (by kernel_rfl) (by kernel_rfl) (fun _ _ _ h => h) (Or.inl ⟨by rfl, ?y28⟩) hHeld ?t28
        case y28 => (intro wx hSw; go_simp <;> with_reducible rfl)
        simp only [Act.put, List.setIfInBounds_toArray, List.set_cons_zero, List.set_cons_succ]
        rw [IntWalk.i64_in (k : Int) (by omega)]
        refine take_at (i := 10) (v := ?v29) rfl (by kernel_rfl) (by kernel_rfl) (by kernel_rfl) (fun _ _ _ h => h) (Or.inl ⟨by rfl, ?y29⟩) hHeld ?t29
        case y29 => (intro wx hSw; go_simp <;> with_reducible rfl)
        simp only [Act.put, List.setIfInBounds_toArray, List.set_cons_zero, List.set_cons_succ]
        refine take_at (i := 11) (v := ?v30) rfl (by kernel_rfl) (by kernel_rfl) (by kernel_rfl) (fun _ _ _ h => h) (Or.inl ⟨by rfl, ?y30⟩) hHeld ?t30
        case y30 => (intro wx hSw; have hi0 : (k : Int) < 7 := (by omega); go_simp <;> with_reducible rfl)
        simp only [Act.put, List.setIfInBounds_toArray, List.set_cons_zero, List.set_cons_succ]
        refine take_at (i := 12) (v := ?v31) rfl (by kernel_rfl) (by kernel_rfl) (by kernel_rfl) (fun _ _ _ h => h) (Or.inl ⟨by rfl, ?y31⟩) hHeld ?t31
        case y31 => (intro wx hSw; have hi0 : (m : Int) < 7 := (by omega); go_simp <;> with_reducible rfl)
        simp only [Act.put, List.setIfInBounds_toArray, List.set_cons_zero, List.set_cons_succ]
        refine take_at (i := 13) (v := ?v32) rfl (by kernel_rfl) (by kernel_rfl) (by kernel_rfl) (fun _ _ _ h => h) (Or.inl ⟨by rfl, ?y32⟩) hHeld ?t32
        case y32 => (intro wx hSw; have hc0 : wx.cell? ⟨w1.heap.size, k * 7 + m, none⟩ = some (.int .i64 ((triN D k m) (k * 7 + m))) := near_c hSw.1 (k * 7 + m) (by omega) (by omega); go_simp <;> with_reducible rfl)
        simp only [Act.put, List.setIfInBounds_toArray, List.set_cons_zero, List.set_cons_succ]
        refine take_at (i := 15) (v := ?v33) rfl (by kernel_rfl) (by kernel_rfl) (by kernel_rfl) (fun _ _ _ h => h) (Or.inl ⟨by rfl, ?y33⟩) hHeld ?t33
        case y33 => (intro wx hSw; go_simp <;> with_reducible rfl)
        simp only [Act.put, List.setIfInBounds_toArray, List.set_cons_zero, List.set_cons_succ]
        refine take_at (i := 16) (v := ?v34) rfl (by kernel_rfl) (by kernel_rfl) (by kernel_rfl) (fun _ _ _ h => h) (Or.inl ⟨by rfl, ?y34⟩) hHeld ?t34
        case y34 => (intro wx hSw; go_simp <;> with_reducible rfl)
        simp only [Act.put, List.setIfInBounds_toArray, List.set_cons_zero, List.set_cons_succ]
        refine take_at (i := 17) (v := ?v35) rfl (by kernel_rfl) (by kernel_rfl) (by kernel_rfl) (fun _ _ _ h => h) (Or.inl ⟨by rfl, ?y35⟩) hHeld ?t35
        case y35 => (intro wx hSw; go_simp <;> with_reducible rfl)
        simp only [Act.put, List.setIfInBounds_toArray, List.set_cons_zero, List.set_cons_succ]
        refine take_at (i := 18) (v := ?v36) rfl (by kernel_rfl) (by kernel_rfl) (by kernel_rfl) (fun _ _ _ h => h) (Or.inl ⟨by rfl, ?y36⟩) hHeld ?t36
        case y36 => (intro wx hSw; go_simp <;> with_reducible rfl)
        simp only [Act.put, List.setIfInBounds_toArray, List.set_cons_zero, List.set_cons_succ]
        rw [IntWalk.i64_in (k : Int) (by omega)]
        refine take_at (i := 19) (v := ?v37) rfl (by kernel_rfl) (by kernel_rfl) (by kernel_rfl) (fun _ _ _ h => h) (Or.inl ⟨by rfl, ?y37⟩) hHeld ?t37
        case y37 => (intro wx hSw; go_simp <;> with_reducible rfl)
        simp only [Act.put, List.setIfInBounds_toArray, List.set_cons_zero, List.set_cons_succ]
        refine take_at (i := 20) (v := ?v38) rfl (by kernel_rfl) (by kernel_rfl) (by kernel_rfl) (fun _ _ _ h => h) (Or.inl ⟨by rfl, ?y38⟩) hHeld ?t38
        case y38 => (intro wx hSw; have hi0 : (k : Int) < 7 := (by omega); go_simp <;> with_reducible rfl)
        simp only [Act.put, List.setIfInBounds_toArray, List.set_cons_zero, List.set_cons_succ]
        refine take_at (i := 21) (v := ?v39) rfl (by kernel_rfl) (by kernel_rfl) (by kernel_rfl) (fun _ _ _ h => h) (Or.inl ⟨by rfl, ?y39⟩) hHeld ?t39
        case y39 => (intro wx hSw; have hi0 : (m : Int) < 7 := (by omega); go_simp <;> with_reducible rfl)
        simp only [Act.put, List.setIfInBounds_toArray, List.set_cons_zero, List.set_cons_succ]
        refine take_at (i := 22) (v := ?v40) rfl (by kernel_rfl) (by kernel_rfl) (by kernel_rfl) (fun _ _ _ h => h) (Or.inl ⟨by rfl, ?y40⟩) hHeld ?t40
        case y40 => (intro wx hSw; have hc0 : wx.cell? ⟨w.heap.size + 1 + 1 + 1, k * 7 + m, none⟩ = some (.int .i64 ((updF (triN P k m) (M * 7 + m) (P M m)) (k * 7 + m))) := row_c hSw.2 (k * 7 + m) (by omega); go_simp <;> with_reducible rfl)
        simp only [Act.put, List.setIfInBounds_toArray, List.set_cons_zero, List.set_cons_succ]
        refine take_at (i := 26) (v := ?v41) rfl (by kernel_rfl) (by kernel_rfl) (by kernel_rfl) (fun _ _ _ h => h) (Or.inl ⟨by rfl, ?y41⟩) hHeld ?t41
        case y41 => (intro wx hSw; go_simp <;> with_reducible rfl)
        simp only [Act.put, List.setIfInBounds_toArray, List.set_cons_zero, List.set_cons_succ]
        refine take_at (i := 27) (v := ?v42) rfl (by kernel_rfl) (by kernel_rfl) (by kernel_rfl) (fun _ _ _ h => h) (Or.inl ⟨by rfl, ?y42⟩) hHeld ?t42
        case y42 => (intro wx hSw; go_simp <;> with_reducible rfl)
        simp only [Act.put, List.setIfInBounds_toArray, List.set_cons_zero, List.set_cons_succ]
        refine take_at (i := 28) (v := ?v43) rfl (by kernel_rfl) (by kernel_rfl) (by kernel_rfl) (fun _ _ _ h => h) (Or.inl ⟨by rfl, ?y43⟩) hHeld ?t43
        case y43 => (intro wx hSw; go_simp <;> with_reducible rfl)
        simp only [Act.put, List.setIfInBounds_toArray, List.set_cons_zero, List.set_cons_succ]
        refine take_at (i := 31) (v := ?v44) rfl (by kernel_rfl) (by kernel_rfl) (by kernel_rfl) (fun _ _ _ h => h) (Or.inl ⟨by rfl, ?y44⟩) hHeld ?t44
        case y44 => (intro wx hSw; have hi0 : (M : Int) < 7 := (by omega); go_simp <;> with_reducible rfl)
        simp only [Act.put, List.setIfInBounds_toArray, List.set_cons_zero, List.set_cons_succ]
        refine call_at (i := 14) (by kernel_rfl) rfl (fun K hK => ?_)
        go_simp
        refine (rMul_any b false c ((triN D k m) (k * 7 + m)) _ (f12.new (w.heap.size + 1 + 1 + 1) (M * 7 + m) (Nat.ne_of_lt y4_BF) (.int .i64 (P M m))).drew).mono ?_
        rintro e w13 ⟨rfl, f13, k13⟩
        rw [T.h5] at f13 ⊢
        dsimp only at f13 ⊢
        have K13 : Kept b w w13 := Kept.trans (K12.new _ _ (by omega) _).drew k13
        have B0_13 : Arr w.heap.size (row 49 (fun _ => 0)) w13 := (B0_12.new (w.heap.size + 1 + 1 + 1) (M * 7 + m) (Nat.ne_of_lt y4_B0) (.int .i64 (P M m))).drew.kept k13 (Nat.ne_of_gt y1_BF)
        have B1_13 : Arr (w.heap.size + 1) (row 49 (fun _ => 0)) w13 := (B1_12.new (w.heap.size + 1 + 1 + 1) (M * 7 + m) (Nat.ne_of_lt y4_B1) (.int .i64 (P M m))).drew.kept k13 (Nat.ne_of_gt y2_BF)
        have B2_13 : Arr (w.heap.size + 1 + 1) (row 49 (fun _ => 0)) w13 := (B2_12.new (w.heap.size + 1 + 1 + 1) (M * 7 + m) (Nat.ne_of_lt y4_B2) (.int .i64 (P M m))).drew.kept k13 (Nat.ne_of_gt y3_BF)
        have B3_13 : Arr (w.heap.size + 1 + 1 + 1) (row 49 (updF (triN P k m) (M * 7 + m) (P M m))) w13 := (row_put B3_12 (M * 7 + m) (by omega) (P M m)).drew.kept k13 (Nat.ne_of_gt y4_BF)
        have B4_13 : Arr w1.heap.size (row 49 (triN D k m)) w13 := (B4_12.new (w.heap.size + 1 + 1 + 1) (M * 7 + m) (Nat.ne_of_gt y5_B3) (.int .i64 (P M m))).drew.kept k13 (Nat.ne_of_gt y5_BF)
        have B5_13 : Arr w2.heap.size (row 49 (triN Q k m)) w13 := (B5_12.new (w.heap.size + 1 + 1 + 1) (M * 7 + m) (Nat.ne_of_gt y6_B3) (.int .i64 (P M m))).drew.kept k13 (Nat.ne_of_gt y6_BF)
        have z13 := B5_13.lies
        clear hHeld
        refine hK.out _ _ ⟨(NearR.same B4_13), B3_13⟩ (fun hHeld => ?_)
        clear hK K K12 f12 B0_12 B1_12 B2_12 B3_12 B4_12 B5_12 k13
        refine call_at (i := 23) (by kernel_rfl) rfl (fun K hK => ?_)
        go_simp
        refine (rMul_any b false s ((updF (triN P k m) (M * 7 + m) (P M m)) (k * 7 + m)) _ f13).mono ?_
        rintro e w14 ⟨rfl, f14, k14⟩
        rw [hs6] at f14 ⊢
        dsimp only at f14 ⊢
        have K14 : Kept b w w14 := Kept.trans K13 k14
        have B0_14 : Arr w.heap.size (row 49 (fun _ => 0)) w14 := B0_13.kept k14 (Nat.ne_of_gt y1_BF)
        have B1_14 : Arr (w.heap.size + 1) (row 49 (fun _ => 0)) w14 := B1_13.kept k14 (Nat.ne_of_gt y2_BF)
        have B2_14 : Arr (w.heap.size + 1 + 1) (row 49 (fun _ => 0)) w14 := B2_13.kept k14 (Nat.ne_of_gt y3_BF)
        have B3_14 : Arr (w.heap.size + 1 + 1 + 1) (row 49 (updF (triN P k m) (M * 7 + m) (P M m))) w14 := B3_13.kept k14 (Nat.ne_of_gt y4_BF)
        have B4_14 : Arr w1.heap.size (row 49 (triN D k m)) w14 := B4_13.kept k14 (Nat.ne_of_gt y5_BF)
        have B5_14 : Arr w2.heap.size (row 49 (triN Q k m)) w14 := B5_13.kept k14 (Nat.ne_of_gt y6_BF)
        have z14 := B5_14.lies
        clear hHeld
        refine hK.out _ _ ⟨(NearR.same B4_14), B3_14⟩ (fun hHeld => ?_)
        clear hK K K13 f13 B0_13 B1_13 B2_13 B3_13 B4_13 B5_13 k14
        refine call_at (i := 24) (by kernel_rfl) rfl (fun K hK => ?_)
        go_simp
        refine (rSub_any b false T.v5 T.v6 _ f14).mono ?_
        rintro e w15 ⟨rfl, f15, k15⟩
        rw [T.h7] at f15 ⊢
        dsimp only at f15 ⊢
        have K15 : Kept b w w15 := Kept.trans K14 k15
        have B0_15 : Arr w.heap.size (row 49 (fun _ => 0)) w15 := B0_14.kept k15 (Nat.ne_of_gt y1_BF)
        have B1_15 : Arr (w.heap.size + 1) (row 49 (fun _ => 0)) w15 := B1_14.kept k15 (Nat.ne_of_gt y2_BF)
        have B2_15 : Arr (w.heap.size + 1 + 1) (row 49 (fun _ => 0)) w15 := B2_14.kept k15 (Nat.ne_of_gt y3_BF)
        have B3_15 : Arr (w.heap.size + 1 + 1 + 1) (row 49 (updF (triN P k m) (M * 7 + m) (P M m))) w15 := B3_14.kept k15 (Nat.ne_of_gt y4_BF)
        have B4_15 : Arr w1.heap.size (row 49 (triN D k m)) w15 := B4_14.kept k15 (Nat.ne_of_gt y5_BF)
        have B5_15 : Arr w2.heap.size (row 49 (triN Q k m)) w15 := B5_14.kept k15 (Nat.ne_of_gt y6_BF)
        have z15 := B5_15.lies
        clear hHeld
        refine hK.out _ _ ⟨(NearR.same B4_15), B3_15⟩ (fun hHeld => ?_)
        clear hK K K14 f14 B0_14 B1_14 B2_14 B3_14 B4_14 B5_14 k15
        refine call_at (i := 25) (by kernel_rfl) rfl (fun K hK => ?_)
        go_simp
        refine (rMul_any b false (Z.gb k m) T.v7 _ f15).mono ?_
        rintro e w16 ⟨rfl, f16, k16⟩
        rw [T.h8] at f16 ⊢
        dsimp only at f16 ⊢
        have K16 : Kept b w w16 := Kept.trans K15 k16
        have B0_16 : Arr w.heap.size (row 49 (fun _ => 0)) w16 := B0_15.kept k16 (Nat.ne_of_gt y1_BF)
        have B1_16 : Arr (w.heap.size + 1) (row 49 (fun _ => 0)) w16 := B1_15.kept k16 (Nat.ne_of_gt y2_BF)
        have B2_16 : Arr (w.heap.size + 1 + 1) (row 49 (fun _ => 0)) w16 := B2_15.kept k16 (Nat.ne_of_gt y3_BF)
        have B3_16 : Arr (w.heap.size + 1 + 1 + 1) (row 49 (updF (triN P k m) (M * 7 + m) (P M m))) w16 := B3_15.kept k16 (Nat.ne_of_gt y4_BF)
        have B4_16 : Arr w1.heap.size (row 49 (triN D k m)) w16 := B4_15.kept k16 (Nat.ne_of_gt y5_BF)
        have B5_16 : Arr w2.heap.size (row 49 (triN Q k m)) w16 := B5_15.kept k16 (Nat.ne_of_gt y6_BF)
        have z16 := B5_16.lies
        clear hHeld
        refine hK.out _ _ ⟨(NearR.same B4_16), B3_16⟩ (fun hHeld => ?_)
        clear hK K K15 f15 B0_15 B1_15 B2_15 B3_15 B4_15 B5_15 k16
        refine call_at (i := 29) (by kernel_rfl) rfl (fun K hK => ?_)
        go_simp
        refine (rMul_any b false (Z.ga k m) ((triN D k m) (j * 7 + m)) _ f16).mono ?_
        rintro e w17 ⟨rfl, f17, k17⟩
        rw [hloD] at f17 ⊢
        dsimp only at f17 ⊢
        have K17 : Kept b w w17 := Kept.trans K16 k17
        have B0_17 : Arr w.heap.size (row 49 (fun _ => 0)) w17 := B0_16.kept k17 (Nat.ne_of_gt y1_BF)
        have B1_17 : Arr (w.heap.size + 1) (row 49 (fun _ => 0)) w17 := B1_16.kept k17 (Nat.ne_of_gt y2_BF)
        have B2_17 : Arr (w.heap.size + 1 + 1) (row 49 (fun _ => 0)) w17 := B2_16.kept k17 (Nat.ne_of_gt y3_BF)
        have B3_17 : Arr (w.heap.size + 1 + 1 + 1) (row 49 (updF (triN P k m) (M * 7 + m) (P M m))) w17 := B3_16.kept k17 (Nat.ne_of_gt y4_BF)
        have B4_17 : Arr w1.heap.size (row 49 (triN D k m)) w17 := B4_16.kept k17 (Nat.ne_of_gt y5_BF)
        have B5_17 : Arr w2.heap.size (row 49 (triN Q k m)) w17 := B5_16.kept k17 (Nat.ne_of_gt y6_BF)
        have z17 := B5_17.lies
        clear hHeld
        refine hK.out _ _ ⟨(NearR.same B4_17), B3_17⟩ (fun hHeld => ?_)
        clear hK K K16 f16 B0_16 B1_16 B2_16 B3_16 B4_16 B5_16 k17
        refine call_at (i := 30) (by kernel_rfl) rfl (fun K hK => ?_)
        go_simp
        refine (rSub_any b false T.v8 T.v9 _ f17).mono ?_
        rintro e w18 ⟨rfl, f18, k18⟩
        rw [T.h10] at f18 ⊢
        dsimp only at f18 ⊢
        have K18 : Kept b w w18 := Kept.trans K17 k18
        have B0_18 : Arr w.heap.size (row 49 (fun _ => 0)) w18 := B0_17.kept k18 (Nat.ne_of_gt y1_BF)
        have B1_18 : Arr (w.heap.size + 1) (row 49 (fun _ => 0)) w18 := B1_17.kept k18 (Nat.ne_of_gt y2_BF)
        have B2_18 : Arr (w.heap.size + 1 + 1) (row 49 (fun _ => 0)) w18 := B2_17.kept k18 (Nat.ne_of_gt y3_BF)
        have B3_18 : Arr (w.heap.size + 1 + 1 + 1) (row 49 (updF (triN P k m) (M * 7 + m) (P M m))) w18 := B3_17.kept k18 (Nat.ne_of_gt y4_BF)
        have B4_18 : Arr w1.heap.size (row 49 (triN D k m)) w18 := B4_17.kept k18 (Nat.ne_of_gt y5_BF)
        have B5_18 : Arr w2.heap.size (row 49 (triN Q k m)) w18 := B5_17.kept k18 (Nat.ne_of_gt y6_BF)
        have z18 := B5_18.lies
        clear hHeld
        refine hK.out _ _ ⟨(NearR.same B4_18), B3_18⟩ (fun hHeld => ?_)
        clear hK K K17 f17 B0_17 B1_17 B2_17 B3_17 B4_17 B5_17 k18
        refine take_at (i := 32) (v := ?v45) rfl (by kernel_rfl) (by kernel_rfl) (by kernel_rfl) (fun _ _ _ h => h) (Or.inl ⟨by rfl, ?y45⟩) hHeld ?t45
        case y45 => (intro wx hSw; have hi0 : (m : Int) < 7 := (by omega); go_simp <;> with_reducible rfl)
        simp only [Act.put, List.setIfInBounds_toArray, List.set_cons_zero, List.set_cons_succ]
        refine call_at (i := 33) (by kernel_rfl) rfl (fun K hK => ?_)
        have c14_B4_0 : w18.cell? ⟨w1.heap.size, M * 7 + m, none⟩ = some (.int .i64 ((triN D k m) (M * 7 + m))) := row_c B4_18 (M * 7 + m) (by omega)
        have g14_B4_1 := row_f B4_18 (M * 7 + m) (by omega)
        go_simp
        clear hHeld
        refine hK.out _ _ ⟨(NearR.upd (row_put B4_18 (M * 7 + m) (by omega) (D M m))), (B3_18.new w1.heap.size (M * 7 + m) (Nat.ne_of_lt y5_B3) (.int .i64 (D M m)))⟩ (fun hHeld => ?_)
        clear hK K c14_B4_0 g14_B4_1
        refine wpAnyH_done (by kernel_rfl) ?_ _
        clear hHeld
        by_cases hc2 : (m : Int) > 0
        · have Hhc2 : Hid ((m : Int) > 0) := hc2
          go_wp2_with fail
          refine wp_region_held_drew (S := fun w' => NearR w2.heap.size 49 (triN Q k m) (M * 7 + m) w') (by kernel_rfl) (NearR.same (B5_18.new w1.heap.size (M * 7 + m) (Nat.ne_of_gt y6_B4) (.int .i64 (D M m))).drew) (fun hHeld => ?_)
          refine take_at (i := 0) (v := ?v46) rfl (by kernel_rfl) (by kernel_rfl) (by kernel_rfl) (fun _ _ _ h => h) (Or.inl ⟨by rfl, ?y46⟩) hHeld ?t46
          case y46 => (intro wx hSw; go_simp <;> with_reducible rfl)
          simp only [Act.put, List.setIfInBounds_toArray, List.set_cons_zero, List.set_cons_succ]
          refine take_at (i := 1) (v := ?v47) rfl (by kernel_rfl) (by kernel_rfl) (by kernel_rfl) (fun _ _ _ h => h) (Or.inl ⟨by rfl, ?y47⟩) hHeld ?t47
          case y47 => (intro wx hSw; go_simp <;> with_reducible rfl)
          simp only [Act.put, List.setIfInBounds_toArray, List.set_cons_zero, List.set_cons_succ]
          refine take_at (i := 2) (v := ?v48) rfl (by kernel_rfl) (by kernel_rfl) (by kernel_rfl) (fun _ _ _ h => h) (Or.inl ⟨by rfl, ?y48⟩) hHeld ?t48
          case y48 => (intro wx hSw; go_simp <;> with_reducible rfl)
          simp only [Act.put, List.setIfInBounds_toArray, List.set_cons_zero, List.set_cons_succ]
          refine take_at (i := 3) (v := ?v49) rfl (by kernel_rfl) (by kernel_rfl) (by kernel_rfl) (fun _ _ _ h => h) (Or.inl ⟨by rfl, ?y49⟩) hHeld ?t49
          case y49 => (intro wx hSw; go_simp <;> with_reducible rfl)
          simp only [Act.put, List.setIfInBounds_toArray, List.set_cons_zero, List.set_cons_succ]
          refine take_at (i := 4) (v := ?v50) rfl (by kernel_rfl) (by kernel_rfl) (by kernel_rfl) (fun _ _ _ h => h) (Or.inl ⟨by rfl, ?y50⟩) hHeld ?t50
          case y50 => (intro wx hSw; go_simp <;> with_reducible rfl)
          simp only [Act.put, List.setIfInBounds_toArray, List.set_cons_zero, List.set_cons_succ]
          refine take_at (i := 5) (v := ?v51) rfl (by kernel_rfl) (by kernel_rfl) (by kernel_rfl) (fun _ _ _ h => h) (Or.inl ⟨by rfl, ?y51⟩) hHeld ?t51
          case y51 => (intro wx hSw; go_simp <;> with_reducible rfl)
          simp only [Act.put, List.setIfInBounds_toArray, List.set_cons_zero, List.set_cons_succ]
          refine take_at (i := 6) (v := ?v52) rfl (by kernel_rfl) (by kernel_rfl) (by kernel_rfl) (fun _ _ _ h => h) (Or.inl ⟨by rfl, ?y52⟩) hHeld ?t52
          case y52 => (intro wx hSw; go_simp <;> with_reducible rfl)
          simp only [Act.put, List.setIfInBounds_toArray, List.set_cons_zero, List.set_cons_succ]
          refine take_at (i := 7) (v := ?v53) rfl (by kernel_rfl) (by kernel_rfl) (by kernel_rfl) (fun _ _ _ h => h) (Or.inl ⟨by rfl, ?y53⟩) hHeld ?t53
          case y53 => (intro wx hSw; go_simp <;> with_reducible rfl)
          simp only [Act.put, List.setIfInBounds_toArray, List.set_cons_zero, List.set_cons_succ]
          refine take_at (i := 8) (v := ?v54) rfl (by kernel_rfl) (by kernel_rfl) (by kernel_rfl) (fun _ _ _ h => h) (Or.inl ⟨by rfl, ?y54⟩) hHeld ?t54
          case y54 => (intro wx hSw; go_simp <;> with_reducible rfl)
          simp only [Act.put, List.setIfInBounds_toArray, List.set_cons_zero, List.set_cons_succ]
          rw [IntWalk.i64_in (k : Int) (by omega)]
          refine take_at (i := 9) (v := ?v55) rfl (by kernel_rfl) (by kernel_rfl) (by kernel_rfl) (fun _ _ _ h => h) (Or.inl ⟨by rfl, ?y55⟩) hHeld ?t55
          case y55 => (intro wx hSw; go_simp <;> with_reducible rfl)
          simp only [Act.put, List.setIfInBounds_toArray, List.set_cons_zero, List.set_cons_succ]
          refine take_at (i := 10) (v := ?v56) rfl (by kernel_rfl) (by kernel_rfl) (by kernel_rfl) (fun _ _ _ h => h) (Or.inl ⟨by rfl, ?y56⟩) hHeld ?t56
          case y56 => (intro wx hSw; have hi0 : (k : Int) < 7 := (by omega); go_simp <;> with_reducible rfl)
          simp only [Act.put, List.setIfInBounds_toArray, List.set_cons_zero, List.set_cons_succ]
          refine take_at (i := 11) (v := ?v57) rfl (by kernel_rfl) (by kernel_rfl) (by kernel_rfl) (fun _ _ _ h => h) (Or.inl ⟨by rfl, ?y57⟩) hHeld ?t57
          case y57 => (intro wx hSw; have hi0 : (m : Int) < 7 := (by omega); go_simp <;> with_reducible rfl)
          simp only [Act.put, List.setIfInBounds_toArray, List.set_cons_zero, List.set_cons_succ]
          refine take_at (i := 12) (v := ?v58) rfl (by kernel_rfl) (by kernel_rfl) (by kernel_rfl) (fun _ _ _ h => h) (Or.inl ⟨by rfl, ?y58⟩) hHeld ?t58
          case y58 => (intro wx hSw; have hc0 : wx.cell? ⟨w2.heap.size, k * 7 + m, none⟩ = some (.int .i64 ((triN Q k m) (k * 7 + m))) := near_c hSw (k * 7 + m) (by omega) (by omega); go_simp <;> with_reducible rfl)
          simp only [Act.put, List.setIfInBounds_toArray, List.set_cons_zero, List.set_cons_succ]
          refine take_at (i := 15) (v := ?v59) rfl (by kernel_rfl) (by kernel_rfl) (by kernel_rfl) (fun _ _ _ h => h) (Or.inl ⟨by rfl, ?y59⟩) hHeld ?t59
          case y59 => (intro wx hSw; go_simp <;> with_reducible rfl)
          simp only [Act.put, List.setIfInBounds_toArray, List.set_cons_zero, List.set_cons_succ]
          refine take_at (i := 16) (v := ?v60) rfl (by kernel_rfl) (by kernel_rfl) (by kernel_rfl) (fun _ _ _ h => h) (Or.inl ⟨by rfl, ?y60⟩) hHeld ?t60
          case y60 => (intro wx hSw; go_simp <;> with_reducible rfl)
          simp only [Act.put, List.setIfInBounds_toArray, List.set_cons_zero, List.set_cons_succ]
          refine take_at (i := 17) (v := ?v61) rfl (by kernel_rfl) (by kernel_rfl) (by kernel_rfl) (fun _ _ _ h => h) (Or.inl ⟨by rfl, ?y61⟩) hHeld ?t61
          case y61 => (intro wx hSw; go_simp <;> with_reducible rfl)
          simp only [Act.put, List.setIfInBounds_toArray, List.set_cons_zero, List.set_cons_succ]
          refine take_at (i := 20) (v := ?v62) rfl (by kernel_rfl) (by kernel_rfl) (by kernel_rfl) (fun _ _ _ h => h) (Or.inl ⟨by rfl, ?y62⟩) hHeld ?t62
          case y62 => (intro wx hSw; have hi0 : (M : Int) < 7 := (by omega); go_simp <;> with_reducible rfl)
          simp only [Act.put, List.setIfInBounds_toArray, List.set_cons_zero, List.set_cons_succ]
          refine call_at (i := 13) (by kernel_rfl) rfl (fun K hK => ?_)
          go_simp
          refine (rMul_any b false c ((triN Q k m) (k * 7 + m)) _ (f18.new w1.heap.size (M * 7 + m) (Nat.ne_of_lt y5_BF) (.int .i64 (D M m))).drew).mono ?_
          rintro e w19 ⟨rfl, f19, k19⟩
          rw [U.h1] at f19 ⊢
          dsimp only at f19 ⊢
          have K19 : Kept b w w19 := Kept.trans (K18.new _ _ (by omega) _).drew k19
          have B0_19 : Arr w.heap.size (row 49 (fun _ => 0)) w19 := (B0_18.new w1.heap.size (M * 7 + m) (Nat.ne_of_lt y5_B0) (.int .i64 (D M m))).drew.kept k19 (Nat.ne_of_gt y1_BF)
          have B1_19 : Arr (w.heap.size + 1) (row 49 (fun _ => 0)) w19 := (B1_18.new w1.heap.size (M * 7 + m) (Nat.ne_of_lt y5_B1) (.int .i64 (D M m))).drew.kept k19 (Nat.ne_of_gt y2_BF)
          have B2_19 : Arr (w.heap.size + 1 + 1) (row 49 (fun _ => 0)) w19 := (B2_18.new w1.heap.size (M * 7 + m) (Nat.ne_of_lt y5_B2) (.int .i64 (D M m))).drew.kept k19 (Nat.ne_of_gt y3_BF)
          have B3_19 : Arr (w.heap.size + 1 + 1 + 1) (row 49 (updF (triN P k m) (M * 7 + m) (P M m))) w19 := (B3_18.new w1.heap.size (M * 7 + m) (Nat.ne_of_lt y5_B3) (.int .i64 (D M m))).drew.kept k19 (Nat.ne_of_gt y4_BF)
          have B4_19 : Arr w1.heap.size (row 49 (updF (triN D k m) (M * 7 + m) (D M m))) w19 := (row_put B4_18 (M * 7 + m) (by omega) (D M m)).drew.kept k19 (Nat.ne_of_gt y5_BF)
          have B5_19 : Arr w2.heap.size (row 49 (triN Q k m)) w19 := (B5_18.new w1.heap.size (M * 7 + m) (Nat.ne_of_gt y6_B4) (.int .i64 (D M m))).drew.kept k19 (Nat.ne_of_gt y6_BF)
          have z19 := B5_19.lies
          clear hHeld
          refine hK.out _ _ (NearR.same B5_19) (fun hHeld => ?_)
          clear hK K K18 f18 B0_18 B1_18 B2_18 B3_18 B4_18 B5_18 k19
          refine call_at (i := 14) (by kernel_rfl) rfl (fun K hK => ?_)
          go_simp
          refine (rMul_any b false (Z.gb k m) U.v1 _ f19).mono ?_
          rintro e w20 ⟨rfl, f20, k20⟩
          rw [U.h2] at f20 ⊢
          dsimp only at f20 ⊢
          have K20 : Kept b w w20 := Kept.trans K19 k20
          have B0_20 : Arr w.heap.size (row 49 (fun _ => 0)) w20 := B0_19.kept k20 (Nat.ne_of_gt y1_BF)
          have B1_20 : Arr (w.heap.size + 1) (row 49 (fun _ => 0)) w20 := B1_19.kept k20 (Nat.ne_of_gt y2_BF)
          have B2_20 : Arr (w.heap.size + 1 + 1) (row 49 (fun _ => 0)) w20 := B2_19.kept k20 (Nat.ne_of_gt y3_BF)
          have B3_20 : Arr (w.heap.size + 1 + 1 + 1) (row 49 (updF (triN P k m) (M * 7 + m) (P M m))) w20 := B3_19.kept k20 (Nat.ne_of_gt y4_BF)
          have B4_20 : Arr w1.heap.size (row 49 (updF (triN D k m) (M * 7 + m) (D M m))) w20 := B4_19.kept k20 (Nat.ne_of_gt y5_BF)
          have B5_20 : Arr w2.heap.size (row 49 (triN Q k m)) w20 := B5_19.kept k20 (Nat.ne_of_gt y6_BF)
          have z20 := B5_20.lies
          clear hHeld
          refine hK.out _ _ (NearR.same B5_20) (fun hHeld => ?_)
          clear hK K K19 f19 B0_19 B1_19 B2_19 B3_19 B4_19 B5_19 k20
          refine call_at (i := 18) (by kernel_rfl) rfl (fun K hK => ?_)
          go_simp
          refine (rMul_any b false (Z.ga k m) ((triN Q k m) (j * 7 + m)) _ f20).mono ?_
          rintro e w21 ⟨rfl, f21, k21⟩
          rw [hloQ] at f21 ⊢
          dsimp only at f21 ⊢
          have K21 : Kept b w w21 := Kept.trans K20 k21
          have B0_21 : Arr w.heap.size (row 49 (fun _ => 0)) w21 := B0_20.kept k21 (Nat.ne_of_gt y1_BF)
          have B1_21 : Arr (w.heap.size + 1) (row 49 (fun _ => 0)) w21 := B1_20.kept k21 (Nat.ne_of_gt y2_BF)
          have B2_21 : Arr (w.heap.size + 1 + 1) (row 49 (fun _ => 0)) w21 := B2_20.kept k21 (Nat.ne_of_gt y3_BF)
          have B3_21 : Arr (w.heap.size + 1 + 1 + 1) (row 49 (updF (triN P k m) (M * 7 + m) (P M m))) w21 := B3_20.kept k21 (Nat.ne_of_gt y4_BF)
          have B4_21 : Arr w1.heap.size (row 49 (updF (triN D k m) (M * 7 + m) (D M m))) w21 := B4_20.kept k21 (Nat.ne_of_gt y5_BF)
          have B5_21 : Arr w2.heap.size (row 49 (triN Q k m)) w21 := B5_20.kept k21 (Nat.ne_of_gt y6_BF)
          have z21 := B5_21.lies
          clear hHeld
          refine hK.out _ _ (NearR.same B5_21) (fun hHeld => ?_)
          clear hK K K20 f20 B0_20 B1_20 B2_20 B3_20 B4_20 B5_20 k21
          refine call_at (i := 19) (by kernel_rfl) rfl (fun K hK => ?_)
          go_simp
          refine (rSub_any b false U.v2 U.v3 _ f21).mono ?_
          rintro e w22 ⟨rfl, f22, k22⟩
          rw [U.h4] at f22 ⊢
          dsimp only at f22 ⊢
          have K22 : Kept b w w22 := Kept.trans K21 k22
          have B0_22 : Arr w.heap.size (row 49 (fun _ => 0)) w22 := B0_21.kept k22 (Nat.ne_of_gt y1_BF)
          have B1_22 : Arr (w.heap.size + 1) (row 49 (fun _ => 0)) w22 := B1_21.kept k22 (Nat.ne_of_gt y2_BF)
          have B2_22 : Arr (w.heap.size + 1 + 1) (row 49 (fun _ => 0)) w22 := B2_21.kept k22 (Nat.ne_of_gt y3_BF)
          have B3_22 : Arr (w.heap.size + 1 + 1 + 1) (row 49 (updF (triN P k m) (M * 7 + m) (P M m))) w22 := B3_21.kept k22 (Nat.ne_of_gt y4_BF)
          have B4_22 : Arr w1.heap.size (row 49 (updF (triN D k m) (M * 7 + m) (D M m))) w22 := B4_21.kept k22 (Nat.ne_of_gt y5_BF)
          have B5_22 : Arr w2.heap.size (row 49 (triN Q k m)) w22 := B5_21.kept k22 (Nat.ne_of_gt y6_BF)
          have z22 := B5_22.lies
          clear hHeld
          refine hK.out _ _ (NearR.same B5_22) (fun hHeld => ?_)
          clear hK K K21 f21 B0_21 B1_21 B2_21 B3_21 B4_21 B5_21 k22
          refine take_at (i := 21) (v := ?v63) rfl (by kernel_rfl) (by kernel_rfl) (by kernel_rfl) (fun _ _ _ h => h) (Or.inl ⟨by rfl, ?y63⟩) hHeld ?t63
          case y63 => (intro wx hSw; have hi0 : (m : Int) < 7 := (by omega); go_simp <;> with_reducible rfl)
          simp only [Act.put, List.setIfInBounds_toArray, List.set_cons_zero, List.set_cons_succ]
          refine call_at (i := 22) (by kernel_rfl) rfl (fun K hK => ?_)
          have c16_B5_0 : w22.cell? ⟨w2.heap.size, M * 7 + m, none⟩ = some (.int .i64 ((triN Q k m) (M * 7 + m))) := row_c B5_22 (M * 7 + m) (by omega)
          have g16_B5_1 := row_f B5_22 (M * 7 + m) (by omega)
          go_simp
          clear hHeld
          refine hK.out _ _ (NearR.upd (row_put B5_22 (M * 7 + m) (by omega) (Q M m))) (fun hHeld => ?_)
          clear hK K c16_B5_0 g16_B5_1
          refine wpAnyH_done (by kernel_rfl) ?_ _
          clear hHeld
          go_wp2_with fail
          rw [hJ1.out]
          intro G_ hG_
          exact hG_ _ _ _ _ _ _ _ _ _ _ _ _ _ _ _ _ _ _ _ _ _ _ _ _ _ _ _ _ _ _ _ _ _ _ _ _ _ _ _ _ _ _ _ _ _ _ _ _ _ _ _ _ _ _ _ _ _ _ _ _ _ _ _ _ _ _ _ _ _ _ _ _ _ _ _ _ _ _ _ _ _ _ _ _ _ _ _ _ _ _ _ _ _ _ _ _ _ _ _ _ _ _ _ _ _ _ _ _ _ _ _ _ _ _ _ _ _ _ _ _ _ _ _ _ _ _ _ _ _ _ _ _ _ _ _ _ _ _ _ _ _ _ _ _ _ _ _ _ _ _ _ _ _ _ _ _ _ _ _ _ _ _ _ _ _ _ _ _ _ _ _ _ _ _ _ _ _ _ _ _ _ _ _ _ _ _ _ _ _ _ _ _ _ _ _ _ _ _ _ _ _ _ _ _ _ _ _ _ _ _ _ _ _ _ _ _ _ _ _ _ _ _ _ _ _ _ _ _ rfl (K22.new _ _ (by omega) _) (f22.new w2.heap.size (M * 7 + m) (Nat.ne_of_lt y6_BF) (.int .i64 (Q M m))) (B0_22.new w2.heap.size (M * 7 + m) (Nat.ne_of_lt y6_B0) (.int .i64 (Q M m))) (B1_22.new w2.heap.size (M * 7 + m) (Nat.ne_of_lt y6_B1) (.int .i64 (Q M m))) (B2_22.new w2.heap.size (M * 7 + m) (Nat.ne_of_lt y6_B2) (.int .i64 (Q M m))) (((B3_22.new w2.heap.size (M * 7 + m) (Nat.ne_of_lt y6_B3) (.int .i64 (Q M m)))).fn (triP_P.out m hm)) (((B4_22.new w2.heap.size (M * 7 + m) (Nat.ne_of_lt y6_B4) (.int .i64 (Q M m)))).fn (triP_D.out m hm)) (((row_put B5_22 (M * 7 + m) (by omega) (Q M m))).fn (triP_Q.out m hm))
        · have Hhc2 : Hid (¬ (m : Int) > 0) := hc2
          go_wp2_with fail
          rw [hJ1.out]
          intro G_ hG_
          exact hG_ _ _ _ _ _ _ _ _ _ _ _ _ _ _ _ _ _ _ _ _ _ _ _ _ _ _ _ _ _ _ _ _ _ _ _ _ _ _ _ _ _ _ _ _ _ _ _ _ _ _ _ _ _ _ _ _ _ _ _ _ _ _ _ _ _ _ _ _ _ _ _ _ _ _ _ _ _ _ _ _ _ _ _ _ _ _ _ _ _ _ _ _ _ _ _ _ _ _ _ _ _ _ _ _ _ _ _ _ _ _ _ _ _ _ _ _ _ _ _ _ _ _ _ _ _ _ _ _ _ _ _ _ _ _ _ _ _ _ _ _ _ _ _ _ _ _ _ _ _ _ _ _ _ _ _ _ _ _ _ _ _ _ _ _ _ _ _ _ _ _ _ _ _ _ _ _ _ _ _ _ _ _ _ _ _ _ _ _ _ _ _ _ _ _ _ _ _ _ _ _ _ _ _ _ _ _ _ _ _ _ _ _ _ _ _ _ _ _ _ _ _ _ _ _ _ _ _ _ rfl (K18.new _ _ (by omega) _) (f18.new w1.heap.size (M * 7 + m) (Nat.ne_of_lt y5_BF) (.int .i64 (D M m))) (B0_18.new w1.heap.size (M * 7 + m) (Nat.ne_of_lt y5_B0) (.int .i64 (D M m))) (B1_18.new w1.heap.size (M * 7 + m) (Nat.ne_of_lt y5_B1) (.int .i64 (D M m))) (B2_18.new w1.heap.size (M * 7 + m) (Nat.ne_of_lt y5_B2) (.int .i64 (D M m))) (((B3_18.new w1.heap.size (M * 7 + m) (Nat.ne_of_lt y5_B3) (.int .i64 (D M m)))).fn (triP_P.out m hm)) (((row_put B4_18 (M * 7 + m) (by omega) (D M m))).fn (triP_D.out m hm)) (((B5_18.new w1.heap.size (M * 7 + m) (Nat.ne_of_gt y6_B4) (.int .i64 (D M m)))).fn (triN_same Q (by omega) (by rw [HM.out]; exact Z.qz M (by omega))))
      · have Hhc1 : Hid (¬ (M : Int) ≥ 2) := hc1
        have hk0 : ¬ 1 ≤ k := by have := Hhc1.out; omega
        have h3 : mulS false (Z.ga k m) 0 = (T.v3, false) := (congrArg (fun x => mulS false (Z.ga k m) x) (low_none P hk0)).symm.trans T.h3
        have h9 : mulS false (Z.ga k m) 0 = (T.v9, false) := (congrArg (fun x => mulS false (Z.ga k m) x) (low_none D hk0)).symm.trans T.h9
        obtain ⟨z0, hloZ⟩ : ∃ z0, mulS false (Z.ga k m) 0 = (z0, false) := ⟨_, h3⟩
        have y3 : T.v3 = z0 := by rw [hloZ] at h3; injection h3 with h3 _; exact h3.symm
        have y9 : T.v9 = z0 := by rw [hloZ] at h9; injection h9 with h9 _; exact h9.symm
        have hT4 := T.h4
        have hT10 := T.h10
        rw [y3] at hT4
        rw [y9] at hT10
        clear h3 h9 y3 y9
        go_wp2_with fail
        refine wp_region_held_drew (S := fun w' => NearR (w.heap.size + 1 + 1 + 1) 49 (triN P k m) (M * 7 + m) w') (by kernel_rfl) (NearR.same B3_8.drew) (fun hHeld => ?_)
        refine take_at (i := 0) (v := ?v64) rfl (by kernel_rfl) (by kernel_rfl) (by kernel_rfl) (fun _ _ _ h => h) (Or.inl ⟨by rfl, ?y64⟩) hHeld ?t64
        case y64 => (intro wx hSw; go_simp <;> with_reducible rfl)
        simp only [Act.put, List.setIfInBounds_toArray, List.set_cons_zero, List.set_cons_succ]
        refine take_at (i := 1) (v := ?v65) rfl (by kernel_rfl) (by kernel_rfl) (by kernel_rfl) (fun _ _ _ h => h) (Or.inl ⟨by rfl, ?y65⟩) hHeld ?t65
        case y65 => (intro wx hSw; go_simp <;> with_reducible rfl)
        simp only [Act.put, List.setIfInBounds_toArray, List.set_cons_zero, List.set_cons_succ]
        refine take_at (i := 2) (v := ?v66) rfl (by kernel_rfl) (by kernel_rfl) (by kernel_rfl) (fun _ _ _ h => h) (Or.inl ⟨by rfl, ?y66⟩) hHeld ?t66
        case y66 => (intro wx hSw; go_simp <;> with_reducible rfl)
        simp only [Act.put, List.setIfInBounds_toArray, List.set_cons_zero, List.set_cons_succ]
        refine take_at (i := 3) (v := ?v67) rfl (by kernel_rfl) (by kernel_rfl) (by kernel_rfl) (fun _ _ _ h => h) (Or.inl ⟨by rfl, ?y67⟩) hHeld ?t67
        case y67 => (intro wx hSw; go_simp <;> with_reducible rfl)
        simp only [Act.put, List.setIfInBounds_toArray, List.set_cons_zero, List.set_cons_succ]
        refine take_at (i := 4) (v := ?v68) rfl (by kernel_rfl) (by kernel_rfl) (by kernel_rfl) (fun _ _ _ h => h) (Or.inl ⟨by rfl, ?y68⟩) hHeld ?t68
        case y68 => (intro wx hSw; go_simp <;> with_reducible rfl)
        simp only [Act.put, List.setIfInBounds_toArray, List.set_cons_zero, List.set_cons_succ]
        refine take_at (i := 5) (v := ?v69) rfl (by kernel_rfl) (by kernel_rfl) (by kernel_rfl) (fun _ _ _ h => h) (Or.inl ⟨by rfl, ?y69⟩) hHeld ?t69
        case y69 => (intro wx hSw; go_simp <;> with_reducible rfl)
        simp only [Act.put, List.setIfInBounds_toArray, List.set_cons_zero, List.set_cons_succ]
        refine take_at (i := 6) (v := ?v70) rfl (by kernel_rfl) (by kernel_rfl) (by kernel_rfl) (fun _ _ _ h => h) (Or.inl ⟨by rfl, ?y70⟩) hHeld ?t70
        case y70 => (intro wx hSw; go_simp <;> with_reducible rfl)
        simp only [Act.put, List.setIfInBounds_toArray, List.set_cons_zero, List.set_cons_succ]
        refine take_at (i := 7) (v := ?v71) rfl (by kernel_rfl) (by kernel_rfl) (by kernel_rfl) (fun _ _ _ h => h) (Or.inl ⟨by rfl, ?y71⟩) hHeld ?t71
        case y71 => (intro wx hSw; go_simp <;> with_reducible rfl)
        simp only [Act.put, List.setIfInBounds_toArray, List.set_cons_zero, List.set_cons_succ]
        refine take_at (i := 8) (v := ?v72) rfl (by kernel_rfl) (by kernel_rfl) (by kernel_rfl) (fun _ _ _ h => h) (Or.inl ⟨by rfl, ?y72⟩) hHeld ?t72
        case y72 => (intro wx hSw; go_simp <;> with_reducible rfl)
        simp only [Act.put, List.setIfInBounds_toArray, List.set_cons_zero, List.set_cons_succ]
        rw [IntWalk.i64_in (k : Int) (by omega)]
        refine take_at (i := 9) (v := ?v73) rfl (by kernel_rfl) (by kernel_rfl) (by kernel_rfl) (fun _ _ _ h => h) (Or.inl ⟨by rfl, ?y73⟩) hHeld ?t73
        case y73 => (intro wx hSw; go_simp <;> with_reducible rfl)
        simp only [Act.put, List.setIfInBounds_toArray, List.set_cons_zero, List.set_cons_succ]
        refine take_at (i := 10) (v := ?v74) rfl (by kernel_rfl) (by kernel_rfl) (by kernel_rfl) (fun _ _ _ h => h) (Or.inl ⟨by rfl, ?y74⟩) hHeld ?t74
        case y74 => (intro wx hSw; have hi0 : (k : Int) < 7 := (by omega); go_simp <;> with_reducible rfl)
        simp only [Act.put, List.setIfInBounds_toArray, List.set_cons_zero, List.set_cons_succ]
        refine take_at (i := 11) (v := ?v75) rfl (by kernel_rfl) (by kernel_rfl) (by kernel_rfl) (fun _ _ _ h => h) (Or.inl ⟨by rfl, ?y75⟩) hHeld ?t75
        case y75 => (intro wx hSw; have hi0 : (m : Int) < 7 := (by omega); go_simp <;> with_reducible rfl)
        simp only [Act.put, List.setIfInBounds_toArray, List.set_cons_zero, List.set_cons_succ]
        refine take_at (i := 12) (v := ?v76) rfl (by kernel_rfl) (by kernel_rfl) (by kernel_rfl) (fun _ _ _ h => h) (Or.inl ⟨by rfl, ?y76⟩) hHeld ?t76
        case y76 => (intro wx hSw; have hc0 : wx.cell? ⟨w.heap.size + 1 + 1 + 1, k * 7 + m, none⟩ = some (.int .i64 ((triN P k m) (k * 7 + m))) := near_c hSw (k * 7 + m) (by omega) (by omega); go_simp <;> with_reducible rfl)
        simp only [Act.put, List.setIfInBounds_toArray, List.set_cons_zero, List.set_cons_succ]
        refine take_at (i := 15) (v := ?v77) rfl (by kernel_rfl) (by kernel_rfl) (by kernel_rfl) (fun _ _ _ h => h) (Or.inl ⟨by rfl, ?y77⟩) hHeld ?t77
        case y77 => (intro wx hSw; go_simp <;> with_reducible rfl)
        simp only [Act.put, List.setIfInBounds_toArray, List.set_cons_zero, List.set_cons_succ]
        refine take_at (i := 16) (v := ?v78) rfl (by kernel_rfl) (by kernel_rfl) (by kernel_rfl) (fun _ _ _ h => h) (Or.inl ⟨by rfl, ?y78⟩) hHeld ?t78
        case y78 => (intro wx hSw; go_simp <;> with_reducible rfl)
        simp only [Act.put, List.setIfInBounds_toArray, List.set_cons_zero, List.set_cons_succ]
        refine take_at (i := 17) (v := ?v79) rfl (by kernel_rfl) (by kernel_rfl) (by kernel_rfl) (fun _ _ _ h => h) (Or.inl ⟨by rfl, ?y79⟩) hHeld ?t79
        case y79 => (intro wx hSw; go_simp <;> with_reducible rfl)
        simp only [Act.put, List.setIfInBounds_toArray, List.set_cons_zero, List.set_cons_succ]
        refine take_at (i := 20) (v := ?v80) rfl (by kernel_rfl) (by kernel_rfl) (by kernel_rfl) (fun _ _ _ h => h) (Or.inl ⟨by rfl, ?y80⟩) hHeld ?t80
        case y80 => (intro wx hSw; have hi0 : (M : Int) < 7 := (by omega); go_simp <;> with_reducible rfl)
        simp only [Act.put, List.setIfInBounds_toArray, List.set_cons_zero, List.set_cons_succ]
        refine call_at (i := 13) (by kernel_rfl) rfl (fun K hK => ?_)
        go_simp
        refine (rMul_any b false c ((triN P k m) (k * 7 + m)) _ f8.drew).mono ?_
        rintro e w9 ⟨rfl, f9, k9⟩
        rw [T.h1] at f9 ⊢
        dsimp only at f9 ⊢
        have K9 : Kept b w w9 := Kept.trans K8.drew k9
        have B0_9 : Arr w.heap.size (row 49 (fun _ => 0)) w9 := B0_8.drew.kept k9 (Nat.ne_of_gt y1_BF)
        have B1_9 : Arr (w.heap.size + 1) (row 49 (fun _ => 0)) w9 := B1_8.drew.kept k9 (Nat.ne_of_gt y2_BF)
        have B2_9 : Arr (w.heap.size + 1 + 1) (row 49 (fun _ => 0)) w9 := B2_8.drew.kept k9 (Nat.ne_of_gt y3_BF)
        have B3_9 : Arr (w.heap.size + 1 + 1 + 1) (row 49 (triN P k m)) w9 := B3_8.drew.kept k9 (Nat.ne_of_gt y4_BF)
        have B4_9 : Arr w1.heap.size (row 49 (triN D k m)) w9 := B4_8.drew.kept k9 (Nat.ne_of_gt y5_BF)
        have B5_9 : Arr w2.heap.size (row 49 (triN Q k m)) w9 := B5_8.drew.kept k9 (Nat.ne_of_gt y6_BF)
        have z9 := B5_9.lies
        clear hHeld
        refine hK.out _ _ (NearR.same B3_9) (fun hHeld => ?_)
        clear hK K K8 f8 B0_8 B1_8 B2_8 B3_8 B4_8 B5_8 k9
        refine call_at (i := 14) (by kernel_rfl) rfl (fun K hK => ?_)
        go_simp
        refine (rMul_any b false (Z.gb k m) T.v1 _ f9).mono ?_
        rintro e w10 ⟨rfl, f10, k10⟩
        rw [T.h2] at f10 ⊢
        dsimp only at f10 ⊢
        have K10 : Kept b w w10 := Kept.trans K9 k10
        have B0_10 : Arr w.heap.size (row 49 (fun _ => 0)) w10 := B0_9.kept k10 (Nat.ne_of_gt y1_BF)
        have B1_10 : Arr (w.heap.size + 1) (row 49 (fun _ => 0)) w10 := B1_9.kept k10 (Nat.ne_of_gt y2_BF)
        have B2_10 : Arr (w.heap.size + 1 + 1) (row 49 (fun _ => 0)) w10 := B2_9.kept k10 (Nat.ne_of_gt y3_BF)
        have B3_10 : Arr (w.heap.size + 1 + 1 + 1) (row 49 (triN P k m)) w10 := B3_9.kept k10 (Nat.ne_of_gt y4_BF)
        have B4_10 : Arr w1.heap.size (row 49 (triN D k m)) w10 := B4_9.kept k10 (Nat.ne_of_gt y5_BF)
        have B5_10 : Arr w2.heap.size (row 49 (triN Q k m)) w10 := B5_9.kept k10 (Nat.ne_of_gt y6_BF)
        have z10 := B5_10.lies
        clear hHeld
        refine hK.out _ _ (NearR.same B3_10) (fun hHeld => ?_)
        clear hK K K9 f9 B0_9 B1_9 B2_9 B3_9 B4_9 B5_9 k10
        refine call_at (i := 18) (by kernel_rfl) rfl (fun K hK => ?_)
        go_simp
        refine (rMul_any b false (Z.ga k m) 0 _ f10).mono ?_
        rintro e w11 ⟨rfl, f11, k11⟩
        rw [hloZ] at f11 ⊢
        dsimp only at f11 ⊢
        have K11 : Kept b w w11 := Kept.trans K10 k11
        have B0_11 : Arr w.heap.size (row 49 (fun _ => 0)) w11 := B0_10.kept k11 (Nat.ne_of_gt y1_BF)
        have B1_11 : Arr (w.heap.size + 1) (row 49 (fun _ => 0)) w11 := B1_10.kept k11 (Nat.ne_of_gt y2_BF)
        have B2_11 : Arr (w.heap.size + 1 + 1) (row 49 (fun _ => 0)) w11 := B2_10.kept k11 (Nat.ne_of_gt y3_BF)
        have B3_11 : Arr (w.heap.size + 1 + 1 + 1) (row 49 (triN P k m)) w11 := B3_10.kept k11 (Nat.ne_of_gt y4_BF)
        have B4_11 : Arr w1.heap.size (row 49 (triN D k m)) w11 := B4_10.kept k11 (Nat.ne_of_gt y5_BF)
        have B5_11 : Arr w2.heap.size (row 49 (triN Q k m)) w11 := B5_10.kept k11 (Nat.ne_of_gt y6_BF)
        have z11 := B5_11.lies
        clear hHeld
        refine hK.out _ _ (NearR.same B3_11) (fun hHeld => ?_)
        clear hK K K10 f10 B0_10 B1_10 B2_10 B3_10 B4_10 B5_10 k11
        refine call_at (i := 19) (by kernel_rfl) rfl (fun K hK => ?_)
        go_simp
        refine (rSub_any b false T.v2 z0 _ f11).mono ?_
        rintro e w12 ⟨rfl, f12, k12⟩
        rw [hT4] at f12 ⊢
        dsimp only at f12 ⊢
        have K12 : Kept b w w12 := Kept.trans K11 k12
        have B0_12 : Arr w.heap.size (row 49 (fun _ => 0)) w12 := B0_11.kept k12 (Nat.ne_of_gt y1_BF)
        have B1_12 : Arr (w.heap.size + 1) (row 49 (fun _ => 0)) w12 := B1_11.kept k12 (Nat.ne_of_gt y2_BF)
        have B2_12 : Arr (w.heap.size + 1 + 1) (row 49 (fun _ => 0)) w12 := B2_11.kept k12 (Nat.ne_of_gt y3_BF)
        have B3_12 : Arr (w.heap.size + 1 + 1 + 1) (row 49 (triN P k m)) w12 := B3_11.kept k12 (Nat.ne_of_gt y4_BF)
        have B4_12 : Arr w1.heap.size (row 49 (triN D k m)) w12 := B4_11.kept k12 (Nat.ne_of_gt y5_BF)
        have B5_12 : Arr w2.heap.size (row 49 (triN Q k m)) w12 := B5_11.kept k12 (Nat.ne_of_gt y6_BF)
        have z12 := B5_12.lies
        clear hHeld
        refine hK.out _ _ (NearR.same B3_12) (fun hHeld => ?_)
        clear hK K K11 f11 B0_11 B1_11 B2_11 B3_11 B4_11 B5_11 k12
        refine take_at (i := 21) (v := ?v81) rfl (by kernel_rfl) (by kernel_rfl) (by kernel_rfl) (fun _ _ _ h => h) (Or.inl ⟨by rfl, ?y81⟩) hHeld ?t81
        case y81 => (intro wx hSw; have hi0 : (m : Int) < 7 := (by omega); go_simp <;> with_reducible rfl)
        simp only [Act.put, List.setIfInBounds_toArray, List.set_cons_zero, List.set_cons_succ]
        refine call_at (i := 22) (by kernel_rfl) rfl (fun K hK => ?_)
        have c12_B3_0 : w12.cell? ⟨w.heap.size + 1 + 1 + 1, M * 7 + m, none⟩ = some (.int .i64 ((triN P k m) (M * 7 + m))) := row_c B3_12 (M * 7 + m) (by omega)
        have g12_B3_1 := row_f B3_12 (M * 7 + m) (by omega)
        go_simp
        clear hHeld
        refine hK.out _ _ (NearR.upd (row_put B3_12 (M * 7 + m) (by omega) (P M m))) (fun hHeld => ?_)
        clear hK K c12_B3_0 g12_B3_1
        refine wpAnyH_done (by kernel_rfl) ?_ _
        clear hHeld
        go_wp2_with fail
        refine wp_region_held_drew (S := fun w' => NearR w1.heap.size 49 (triN D k m) (M * 7 + m) w' ∧ Arr (w.heap.size + 1 + 1 + 1) (row 49 (updF (triN P k m) (M * 7 + m) (P M m))) w') (by kernel_rfl) ⟨(NearR.same (B4_12.new (w.heap.size + 1 + 1 + 1) (M * 7 + m) (Nat.ne_of_gt y5_B3) (.int .i64 (P M m))).drew), (row_put B3_12 (M * 7 + m) (by omega) (P M m)).drew⟩ (fun hHeld => ?_)
        refine take_at (i := 0) (v := ?v82) rfl (by kernel_rfl) (by kernel_rfl) (by kernel_rfl) (fun _ _ _ h => h) (Or.inl ⟨by rfl, ?y82⟩) hHeld ?t82
        case y82 => (intro wx hSw; go_simp <;> with_reducible rfl)
        simp only [Act.put, List.setIfInBounds_toArray, List.set_cons_zero, List.set_cons_succ]
        refine take_at (i := 1) (v := ?v83) rfl (by kernel_rfl) (by kernel_rfl) (by kernel_rfl) (fun _ _ _ h => h) (Or.inl ⟨by rfl, ?y83⟩) hHeld ?t83
        case y83 => (intro wx hSw; go_simp <;> with_reducible rfl)
        simp only [Act.put, List.setIfInBounds_toArray, List.set_cons_zero, List.set_cons_succ]
        refine take_at (i := 2) (v := ?v84) rfl (by kernel_rfl) (by kernel_rfl) (by kernel_rfl) (fun _ _ _ h => h) (Or.inl ⟨by rfl, ?y84⟩) hHeld ?t84
        case y84 => (intro wx hSw; go_simp <;> with_reducible rfl)
        simp only [Act.put, List.setIfInBounds_toArray, List.set_cons_zero, List.set_cons_succ]
        refine take_at (i := 3) (v := ?v85) rfl (by kernel_rfl) (by kernel_rfl) (by kernel_rfl) (fun _ _ _ h => h) (Or.inl ⟨by rfl, ?y85⟩) hHeld ?t85
        case y85 => (intro wx hSw; go_simp <;> with_reducible rfl)
        simp only [Act.put, List.setIfInBounds_toArray, List.set_cons_zero, List.set_cons_succ]
        refine take_at (i := 4) (v := ?v86) rfl (by kernel_rfl) (by kernel_rfl) (by kernel_rfl) (fun _ _ _ h => h) (Or.inl ⟨by rfl, ?y86⟩) hHeld ?t86
        case y86 => (intro wx hSw; go_simp <;> with_reducible rfl)
        simp only [Act.put, List.setIfInBounds_toArray, List.set_cons_zero, List.set_cons_succ]
        refine take_at (i := 5) (v := ?v87) rfl (by kernel_rfl) (by kernel_rfl) (by kernel_rfl) (fun _ _ _ h => h) (Or.inl ⟨by rfl, ?y87⟩) hHeld ?t87
        case y87 => (intro wx hSw; go_simp <;> with_reducible rfl)
        simp only [Act.put, List.setIfInBounds_toArray, List.set_cons_zero, List.set_cons_succ]
        refine take_at (i := 6) (v := ?v88) rfl (by kernel_rfl) (by kernel_rfl) (by kernel_rfl) (fun _ _ _ h => h) (Or.inl ⟨by rfl, ?y88⟩) hHeld ?t88
        case y88 => (intro wx hSw; go_simp <;> with_reducible rfl)
        simp only [Act.put, List.setIfInBounds_toArray, List.set_cons_zero, List.set_cons_succ]
        refine take_at (i := 7) (v := ?v89) rfl (by kernel_rfl) (by kernel_rfl) (by kernel_rfl) (fun _ _ _ h => h) (Or.inl ⟨by rfl, ?y89⟩) hHeld ?t89
        case y89 => (intro wx hSw; go_simp <;> with_reducible rfl)
        simp only [Act.put, List.setIfInBounds_toArray, List.set_cons_zero, List.set_cons_succ]
        refine take_at (i := 8) (v := ?v90) rfl (by kernel_rfl) (by kernel_rfl) (by kernel_rfl) (fun _ _ _ h => h) (Or.inl ⟨by rfl, ?y90⟩) hHeld ?t90
        case y90 => (intro wx hSw; go_simp <;> with_reducible rfl)
        simp only [Act.put, List.setIfInBounds_toArray, List.set_cons_zero, List.set_cons_succ]
        refine take_at (i := 9) (v := ?v91) rfl (by kernel_rfl) (by kernel_rfl) (by kernel_rfl) (fun _ _ _ h => h) (Or.inl ⟨by rfl, ?y91⟩) hHeld ?t91
        case y91 => (intro wx hSw; go_simp <;> with_reducible rfl)
        simp only [Act.put, List.setIfInBounds_toArray, List.set_cons_zero, List.set_cons_succ]
        rw [IntWalk.i64_in (k : Int) (by omega)]
        refine take_at (i := 10) (v := ?v92) rfl (by kernel_rfl) (by kernel_rfl) (by kernel_rfl) (fun _ _ _ h => h) (Or.inl ⟨by rfl, ?y92⟩) hHeld ?t92
        case y92 => (intro wx hSw; go_simp <;> with_reducible rfl)
        simp only [Act.put, List.setIfInBounds_toArray, List.set_cons_zero, List.set_cons_succ]
        refine take_at (i := 11) (v := ?v93) rfl (by kernel_rfl) (by kernel_rfl) (by kernel_rfl) (fun _ _ _ h => h) (Or.inl ⟨by rfl, ?y93⟩) hHeld ?t93
        case y93 => (intro wx hSw; have hi0 : (k : Int) < 7 := (by omega); go_simp <;> with_reducible rfl)
        simp only [Act.put, List.setIfInBounds_toArray, List.set_cons_zero, List.set_cons_succ]
        refine take_at (i := 12) (v := ?v94) rfl (by kernel_rfl) (by kernel_rfl) (by kernel_rfl) (fun _ _ _ h => h) (Or.inl ⟨by rfl, ?y94⟩) hHeld ?t94
        case y94 => (intro wx hSw; have hi0 : (m : Int) < 7 := (by omega); go_simp <;> with_reducible rfl)
        simp only [Act.put, List.setIfInBounds_toArray, List.set_cons_zero, List.set_cons_succ]
        refine take_at (i := 13) (v := ?v95) rfl (by kernel_rfl) (by kernel_rfl) (by kernel_rfl) (fun _ _ _ h => h) (Or.inl ⟨by rfl, ?y95⟩) hHeld ?t95
        case y95 => (intro wx hSw; have hc0 : wx.cell? ⟨w1.heap.size, k * 7 + m, none⟩ = some (.int .i64 ((triN D k m) (k * 7 + m))) := near_c hSw.1 (k * 7 + m) (by omega) (by omega); go_simp <;> with_reducible rfl)
        simp only [Act.put, List.setIfInBounds_toArray, List.set_cons_zero, List.set_cons_succ]
        refine take_at (i := 15) (v := ?v96) rfl (by kernel_rfl) (by kernel_rfl) (by kernel_rfl) (fun _ _ _ h => h) (Or.inl ⟨by rfl, ?y96⟩) hHeld ?t96
        case y96 => (intro wx hSw; go_simp <;> with_reducible rfl)
        simp only [Act.put, List.setIfInBounds_toArray, List.set_cons_zero, List.set_cons_succ]
        refine take_at (i := 16) (v := ?v97) rfl (by kernel_rfl) (by kernel_rfl) (by kernel_rfl) (fun _ _ _ h => h) (Or.inl ⟨by rfl, ?y97⟩) hHeld ?t97
        case y97 => (intro wx hSw; go_simp <;> with_reducible rfl)
        simp only [Act.put, List.setIfInBounds_toArray, List.set_cons_zero, List.set_cons_succ]
        refine take_at (i := 17) (v := ?v98) rfl (by kernel_rfl) (by kernel_rfl) (by kernel_rfl) (fun _ _ _ h => h) (Or.inl ⟨by rfl, ?y98⟩) hHeld ?t98
        case y98 => (intro wx hSw; go_simp <;> with_reducible rfl)
        simp only [Act.put, List.setIfInBounds_toArray, List.set_cons_zero, List.set_cons_succ]
        refine take_at (i := 18) (v := ?v99) rfl (by kernel_rfl) (by kernel_rfl) (by kernel_rfl) (fun _ _ _ h => h) (Or.inl ⟨by rfl, ?y99⟩) hHeld ?t99
        case y99 => (intro wx hSw; go_simp <;> with_reducible rfl)
        simp only [Act.put, List.setIfInBounds_toArray, List.set_cons_zero, List.set_cons_succ]
        rw [IntWalk.i64_in (k : Int) (by omega)]
        refine take_at (i := 19) (v := ?v100) rfl (by kernel_rfl) (by kernel_rfl) (by kernel_rfl) (fun _ _ _ h => h) (Or.inl ⟨by rfl, ?y100⟩) hHeld ?t100
        case y100 => (intro wx hSw; go_simp <;> with_reducible rfl)
        simp only [Act.put, List.setIfInBounds_toArray, List.set_cons_zero, List.set_cons_succ]
        refine take_at (i := 20) (v := ?v101) rfl (by kernel_rfl) (by kernel_rfl) (by kernel_rfl) (fun _ _ _ h => h) (Or.inl ⟨by rfl, ?y101⟩) hHeld ?t101
        case y101 => (intro wx hSw; have hi0 : (k : Int) < 7 := (by omega); go_simp <;> with_reducible rfl)
        simp only [Act.put, List.setIfInBounds_toArray, List.set_cons_zero, List.set_cons_succ]
        refine take_at (i := 21) (v := ?v102) rfl (by kernel_rfl) (by kernel_rfl) (by kernel_rfl) (fun _ _ _ h => h) (Or.inl ⟨by rfl, ?y102⟩) hHeld ?t102
        case y102 => (intro wx hSw; have hi0 : (m : Int) < 7 := (by omega); go_simp <;> with_reducible rfl)
        simp only [Act.put, List.setIfInBounds_toArray, List.set_cons_zero, List.set_cons_succ]
        refine take_at (i := 22) (v := ?v103) rfl (by kernel_rfl) (by kernel_rfl) (by kernel_rfl) (fun _ _ _ h => h) (Or.inl ⟨by rfl, ?y103⟩) hHeld ?t103
        case y103 => (intro wx hSw; have hc0 : wx.cell? ⟨w.heap.size + 1 + 1 + 1, k * 7 + m, none⟩ = some (.int .i64 ((updF (triN P k m) (M * 7 + m) (P M m)) (k * 7 + m))) := row_c hSw.2 (k * 7 + m) (by omega); go_simp <;> with_reducible rfl)
        simp only [Act.put, List.setIfInBounds_toArray, List.set_cons_zero, List.set_cons_succ]
        refine take_at (i := 26) (v := ?v104) rfl (by kernel_rfl) (by kernel_rfl) (by kernel_rfl) (fun _ _ _ h => h) (Or.inl ⟨by rfl, ?y104⟩) hHeld ?t104
        case y104 => (intro wx hSw; go_simp <;> with_reducible rfl)
        simp only [Act.put, List.setIfInBounds_toArray, List.set_cons_zero, List.set_cons_succ]
        refine take_at (i := 27) (v := ?v105) rfl (by kernel_rfl) (by kernel_rfl) (by kernel_rfl) (fun _ _ _ h => h) (Or.inl ⟨by rfl, ?y105⟩) hHeld ?t105
        case y105 => (intro wx hSw; go_simp <;> with_reducible rfl)
        simp only [Act.put, List.setIfInBounds_toArray, List.set_cons_zero, List.set_cons_succ]
        refine take_at (i := 28) (v := ?v106) rfl (by kernel_rfl) (by kernel_rfl) (by kernel_rfl) (fun _ _ _ h => h) (Or.inl ⟨by rfl, ?y106⟩) hHeld ?t106
        case y106 => (intro wx hSw; go_simp <;> with_reducible rfl)
        simp only [Act.put, List.setIfInBounds_toArray, List.set_cons_zero, List.set_cons_succ]
        refine take_at (i := 31) (v := ?v107) rfl (by kernel_rfl) (by kernel_rfl) (by kernel_rfl) (fun _ _ _ h => h) (Or.inl ⟨by rfl, ?y107⟩) hHeld ?t107
        case y107 => (intro wx hSw; have hi0 : (M : Int) < 7 := (by omega); go_simp <;> with_reducible rfl)
        simp only [Act.put, List.setIfInBounds_toArray, List.set_cons_zero, List.set_cons_succ]
        refine call_at (i := 14) (by kernel_rfl) rfl (fun K hK => ?_)
        go_simp
        refine (rMul_any b false c ((triN D k m) (k * 7 + m)) _ (f12.new (w.heap.size + 1 + 1 + 1) (M * 7 + m) (Nat.ne_of_lt y4_BF) (.int .i64 (P M m))).drew).mono ?_
        rintro e w13 ⟨rfl, f13, k13⟩
        rw [T.h5] at f13 ⊢
        dsimp only at f13 ⊢
        have K13 : Kept b w w13 := Kept.trans (K12.new _ _ (by omega) _).drew k13
        have B0_13 : Arr w.heap.size (row 49 (fun _ => 0)) w13 := (B0_12.new (w.heap.size + 1 + 1 + 1) (M * 7 + m) (Nat.ne_of_lt y4_B0) (.int .i64 (P M m))).drew.kept k13 (Nat.ne_of_gt y1_BF)
        have B1_13 : Arr (w.heap.size + 1) (row 49 (fun _ => 0)) w13 := (B1_12.new (w.heap.size + 1 + 1 + 1) (M * 7 + m) (Nat.ne_of_lt y4_B1) (.int .i64 (P M m))).drew.kept k13 (Nat.ne_of_gt y2_BF)
        have B2_13 : Arr (w.heap.size + 1 + 1) (row 49 (fun _ => 0)) w13 := (B2_12.new (w.heap.size + 1 + 1 + 1) (M * 7 + m) (Nat.ne_of_lt y4_B2) (.int .i64 (P M m))).drew.kept k13 (Nat.ne_of_gt y3_BF)
        have B3_13 : Arr (w.heap.size + 1 + 1 + 1) (row 49 (updF (triN P k m) (M * 7 + m) (P M m))) w13 := (row_put B3_12 (M * 7 + m) (by omega) (P M m)).drew.kept k13 (Nat.ne_of_gt y4_BF)
        have B4_13 : Arr w1.heap.size (row 49 (triN D k m)) w13 := (B4_12.new (w.heap.size + 1 + 1 + 1) (M * 7 + m) (Nat.ne_of_gt y5_B3) (.int .i64 (P M m))).drew.kept k13 (Nat.ne_of_gt y5_BF)
        have B5_13 : Arr w2.heap.size (row 49 (triN Q k m)) w13 := (B5_12.new (w.heap.size + 1 + 1 + 1) (M * 7 + m) (Nat.ne_of_gt y6_B3) (.int .i64 (P M m))).drew.kept k13 (Nat.ne_of_gt y6_BF)
        have z13 := B5_13.lies
        clear hHeld
        refine hK.out _ _ ⟨(NearR.same B4_13), B3_13⟩ (fun hHeld => ?_)
        clear hK K K12 f12 B0_12 B1_12 B2_12 B3_12 B4_12 B5_12 k13
        refine call_at (i := 23) (by kernel_rfl) rfl (fun K hK => ?_)
        go_simp
        refine (rMul_any b false s ((updF (triN P k m) (M * 7 + m) (P M m)) (k * 7 + m)) _ f13).mono ?_
        rintro e w14 ⟨rfl, f14, k14⟩
        rw [hs6] at f14 ⊢
        dsimp only at f14 ⊢
        have K14 : Kept b w w14 := Kept.trans K13 k14
        have B0_14 : Arr w.heap.size (row 49 (fun _ => 0)) w14 := B0_13.kept k14 (Nat.ne_of_gt y1_BF)
        have B1_14 : Arr (w.heap.size + 1) (row 49 (fun _ => 0)) w14 := B1_13.kept k14 (Nat.ne_of_gt y2_BF)
        have B2_14 : Arr (w.heap.size + 1 + 1) (row 49 (fun _ => 0)) w14 := B2_13.kept k14 (Nat.ne_of_gt y3_BF)
        have B3_14 : Arr (w.heap.size + 1 + 1 + 1) (row 49 (updF (triN P k m) (M * 7 + m) (P M m))) w14 := B3_13.kept k14 (Nat.ne_of_gt y4_BF)
        have B4_14 : Arr w1.heap.size (row 49 (triN D k m)) w14 := B4_13.kept k14 (Nat.ne_of_gt y5_BF)
        have B5_14 : Arr w2.heap.size (row 49 (triN Q k m)) w14 := B5_13.kept k14 (Nat.ne_of_gt y6_BF)
        have z14 := B5_14.lies
        clear hHeld
        refine hK.out _ _ ⟨(NearR.same B4_14), B3_14⟩ (fun hHeld => ?_)
        clear hK K K13 f13 B0_13 B1_13 B2_13 B3_13 B4_13 B5_13 k14
        refine call_at (i := 24) (by kernel_rfl) rfl (fun K hK => ?_)
        go_simp
        refine (rSub_any b false T.v5 T.v6 _ f14).mono ?_
        rintro e w15 ⟨rfl, f15, k15⟩
        rw [T.h7] at f15 ⊢
        dsimp only at f15 ⊢
        have K15 : Kept b w w15 := Kept.trans K14 k15
        have B0_15 : Arr w.heap.size (row 49 (fun _ => 0)) w15 := B0_14.kept k15 (Nat.ne_of_gt y1_BF)
        have B1_15 : Arr (w.heap.size + 1) (row 49 (fun _ => 0)) w15 := B1_14.kept k15 (Nat.ne_of_gt y2_BF)
        have B2_15 : Arr (w.heap.size + 1 + 1) (row 49 (fun _ => 0)) w15 := B2_14.kept k15 (Nat.ne_of_gt y3_BF)
        have B3_15 : Arr (w.heap.size + 1 + 1 + 1) (row 49 (updF (triN P k m) (M * 7 + m) (P M m))) w15 := B3_14.kept k15 (Nat.ne_of_gt y4_BF)
        have B4_15 : Arr w1.heap.size (row 49 (triN D k m)) w15 := B4_14.kept k15 (Nat.ne_of_gt y5_BF)
        have B5_15 : Arr w2.heap.size (row 49 (triN Q k m)) w15 := B5_14.kept k15 (Nat.ne_of_gt y6_BF)
        have z15 := B5_15.lies
        clear hHeld
        refine hK.out _ _ ⟨(NearR.same B4_15), B3_15⟩ (fun hHeld => ?_)
        clear hK K K14 f14 B0_14 B1_14 B2_14 B3_14 B4_14 B5_14 k15
        refine call_at (i := 25) (by kernel_rfl) rfl (fun K hK => ?_)
        go_simp
        refine (rMul_any b false (Z.gb k m) T.v7 _ f15).mono ?_
        rintro e w16 ⟨rfl, f16, k16⟩
        rw [T.h8] at f16 ⊢
        dsimp only at f16 ⊢
        have K16 : Kept b w w16 := Kept.trans K15 k16
        have B0_16 : Arr w.heap.size (row 49 (fun _ => 0)) w16 := B0_15.kept k16 (Nat.ne_of_gt y1_BF)
        have B1_16 : Arr (w.heap.size + 1) (row 49 (fun _ => 0)) w16 := B1_15.kept k16 (Nat.ne_of_gt y2_BF)
        have B2_16 : Arr (w.heap.size + 1 + 1) (row 49 (fun _ => 0)) w16 := B2_15.kept k16 (Nat.ne_of_gt y3_BF)
        have B3_16 : Arr (w.heap.size + 1 + 1 + 1) (row 49 (updF (triN P k m) (M * 7 + m) (P M m))) w16 := B3_15.kept k16 (Nat.ne_of_gt y4_BF)
        have B4_16 : Arr w1.heap.size (row 49 (triN D k m)) w16 := B4_15.kept k16 (Nat.ne_of_gt y5_BF)
        have B5_16 : Arr w2.heap.size (row 49 (triN Q k m)) w16 := B5_15.kept k16 (Nat.ne_of_gt y6_BF)
        have z16 := B5_16.lies
        clear hHeld
        refine hK.out _ _ ⟨(NearR.same B4_16), B3_16⟩ (fun hHeld => ?_)
        clear hK K K15 f15 B0_15 B1_15 B2_15 B3_15 B4_15 B5_15 k16
        refine call_at (i := 29) (by kernel_rfl) rfl (fun K hK => ?_)
        go_simp
        refine (rMul_any b false (Z.ga k m) 0 _ f16).mono ?_
        rintro e w17 ⟨rfl, f17, k17⟩
        rw [hloZ] at f17 ⊢
        dsimp only at f17 ⊢
        have K17 : Kept b w w17 := Kept.trans K16 k17
        have B0_17 : Arr w.heap.size (row 49 (fun _ => 0)) w17 := B0_16.kept k17 (Nat.ne_of_gt y1_BF)
        have B1_17 : Arr (w.heap.size + 1) (row 49 (fun _ => 0)) w17 := B1_16.kept k17 (Nat.ne_of_gt y2_BF)
        have B2_17 : Arr (w.heap.size + 1 + 1) (row 49 (fun _ => 0)) w17 := B2_16.kept k17 (Nat.ne_of_gt y3_BF)
        have B3_17 : Arr (w.heap.size + 1 + 1 + 1) (row 49 (updF (triN P k m) (M * 7 + m) (P M m))) w17 := B3_16.kept k17 (Nat.ne_of_gt y4_BF)
        have B4_17 : Arr w1.heap.size (row 49 (triN D k m)) w17 := B4_16.kept k17 (Nat.ne_of_gt y5_BF)
        have B5_17 : Arr w2.heap.size (row 49 (triN Q k m)) w17 := B5_16.kept k17 (Nat.ne_of_gt y6_BF)
        have z17 := B5_17.lies
        clear hHeld
        refine hK.out _ _ ⟨(NearR.same B4_17), B3_17⟩ (fun hHeld => ?_)
        clear hK K K16 f16 B0_16 B1_16 B2_16 B3_16 B4_16 B5_16 k17
        refine call_at (i := 30) (by kernel_rfl) rfl (fun K hK => ?_)
        go_simp
        refine (rSub_any b false T.v8 z0 _ f17).mono ?_
        rintro e w18 ⟨rfl, f18, k18⟩
        rw [hT10] at f18 ⊢
        dsimp only at f18 ⊢
        have K18 : Kept b w w18 := Kept.trans K17 k18
        have B0_18 : Arr w.heap.size (row 49 (fun _ => 0)) w18 := B0_17.kept k18 (Nat.ne_of_gt y1_BF)
        have B1_18 : Arr (w.heap.size + 1) (row 49 (fun _ => 0)) w18 := B1_17.kept k18 (Nat.ne_of_gt y2_BF)
        have B2_18 : Arr (w.heap.size + 1 + 1) (row 49 (fun _ => 0)) w18 := B2_17.kept k18 (Nat.ne_of_gt y3_BF)
        have B3_18 : Arr (w.heap.size + 1 + 1 + 1) (row 49 (updF (triN P k m) (M * 7 + m) (P M m))) w18 := B3_17.kept k18 (Nat.ne_of_gt y4_BF)
        have B4_18 : Arr w1.heap.size (row 49 (triN D k m)) w18 := B4_17.kept k18 (Nat.ne_of_gt y5_BF)
        have B5_18 : Arr w2.heap.size (row 49 (triN Q k m)) w18 := B5_17.kept k18 (Nat.ne_of_gt y6_BF)
        have z18 := B5_18.lies
        clear hHeld
        refine hK.out _ _ ⟨(NearR.same B4_18), B3_18⟩ (fun hHeld => ?_)
        clear hK K K17 f17 B0_17 B1_17 B2_17 B3_17 B4_17 B5_17 k18
        refine take_at (i := 32) (v := ?v108) rfl (by kernel_rfl) (by kernel_rfl) (by kernel_rfl) (fun _ _ _ h => h) (Or.inl ⟨by rfl, ?y108⟩) hHeld ?t108
        case y108 => (intro wx hSw; have hi0 : (m : Int) < 7 := (by omega); go_simp <;> with_reducible rfl)
        simp only [Act.put, List.setIfInBounds_toArray, List.set_cons_zero, List.set_cons_succ]
        refine call_at (i := 33) (by kernel_rfl) rfl (fun K hK => ?_)
        have c14_B4_0 : w18.cell? ⟨w1.heap.size, M * 7 + m, none⟩ = some (.int .i64 ((triN D k m) (M * 7 + m))) := row_c B4_18 (M * 7 + m) (by omega)
        have g14_B4_1 := row_f B4_18 (M * 7 + m) (by omega)
        go_simp
        clear hHeld
        refine hK.out _ _ ⟨(NearR.upd (row_put B4_18 (M * 7 + m) (by omega) (D M m))), (B3_18.new w1.heap.size (M * 7 + m) (Nat.ne_of_lt y5_B3) (.int .i64 (D M m)))⟩ (fun hHeld => ?_)
        clear hK K c14_B4_0 g14_B4_1
        refine wpAnyH_done (by kernel_rfl) ?_ _
        clear hHeld
        go_wp2_with fail
        rw [hJ1.out]
        intro G_ hG_
        exact hG_ _ _ _ _ _ _ _ _ _ _ _ _ _ _ _ _ _ _ _ _ _ _ _ _ _ _ _ _ _ _ _ _ _ _ _ _ _ _ _ _ _ _ _ _ _ _ _ _ _ _ _ _ _ _ _ _ _ _ _ _ _ _ _ _ _ _ _ _ _ _ _ _ _ _ _ _ _ _ _ _ _ _ _ _ _ _ _ _ _ _ _ _ _ _ _ _ _ _ _ _ _ _ _ _ _ _ _ _ _ _ _ _ _ _ _ _ _ _ _ _ _ _ _ _ _ _ _ _ _ _ _ _ _ _ _ _ _ _ _ _ _ _ _ _ _ _ _ _ _ _ _ _ _ _ _ _ _ _ _ _ _ _ _ _ _ _ _ _ _ _ _ _ _ _ _ _ _ _ _ _ _ _ _ _ _ _ _ _ _ _ _ _ _ _ _ _ _ _ _ _ _ _ _ _ _ _ _ _ _ _ _ _ _ _ _ _ _ _ _ _ _ _ _ _ _ _ _ _ rfl (K18.new _ _ (by omega) _) (f18.new w1.heap.size (M * 7 + m) (Nat.ne_of_lt y5_BF) (.int .i64 (D M m))) (B0_18.new w1.heap.size (M * 7 + m) (Nat.ne_of_lt y5_B0) (.int .i64 (D M m))) (B1_18.new w1.heap.size (M * 7 + m) (Nat.ne_of_lt y5_B1) (.int .i64 (D M m))) (B2_18.new w1.heap.size (M * 7 + m) (Nat.ne_of_lt y5_B2) (.int .i64 (D M m))) (((B3_18.new w1.heap.size (M * 7 + m) (Nat.ne_of_lt y5_B3) (.int .i64 (D M m)))).fn (triP_P.out m hm)) (((row_put B4_18 (M * 7 + m) (by omega) (D M m))).fn (triP_D.out m hm)) (((B5_18.new w1.heap.size (M * 7 + m) (Nat.ne_of_gt y6_B4) (.int .i64 (D M m)))).fn (triN_same Q (by omega) (by rw [HM.out]; exact Z.qz M (by omega))))
    · intro a Wl1 hI R
      rw [hJ1.out] at hI
      refine hI _ ?_
      clear hI hJ1
      intro t1_3 t1_4 t1_5 t1_14 t1_15 t1_16 t1_17 t1_18 t1_19 t1_20 t1_21 t1_22 t1_23 t1_24 t1_25 t1_26 t1_27 t1_28 t1_29 t1_30 t1_31 t1_32 t1_33 t1_34 t1_35 t1_36 t1_37 t1_38 t1_39 t1_40 t1_41 t1_42 t1_43 t1_44 t1_45 t1_46 t1_47 t1_48 t1_49 t1_50 t1_51 t1_52 t1_53 t1_54 t1_55 t1_56 t1_57 t1_58 t1_59 t1_60 t1_61 t1_62 t1_63 t1_64 t1_65 t1_66 t1_67 t1_68 t1_69 t1_70 t1_71 t1_72 t1_73 t1_74 t1_75 t1_76 t1_77 t1_78 t1_79 t1_80 t1_81 t1_82 t1_83 t1_84 t1_85 t1_86 t1_87 t1_88 t1_89 t1_90 t1_91 t1_92 t1_93 t1_94 t1_95 t1_96 t1_97 t1_98 t1_99 t1_100 t1_101 t1_102 t1_103 t1_104 t1_105 t1_106 t1_107 t1_108 t1_109 t1_110 t1_111 t1_112 t1_113 t1_114 t1_115 t1_116 t1_117 t1_118 t1_119 t1_120 t1_121 t1_122 t1_123 t1_124 t1_125 t1_126 t1_127 t1_128 t1_129 t1_130 t1_131 t1_132 t1_133 t1_134 t1_135 t1_136 t1_137 t1_138 t1_139 t1_140 t1_141 t1_142 t1_143 t1_144 t1_145 t1_146 t1_147 t1_148 t1_149 t1_150 t1_151 t1_152 t1_153 t1_154 t1_155 t1_156 t1_157 t1_158 t1_159 t1_160 t1_161 t1_162 t1_163 t1_164 t1_165 t1_166 t1_167 t1_168 t1_169 t1_170 t1_171 t1_172 t1_173 t1_174 t1_175 t1_176 t1_177 t1_178 t1_179 t1_180 t1_181 t1_182 t1_183 t1_184 t1_185 t1_186 t1_187 t1_188 t1_189 t1_190 t1_191 t1_192 t1_193 t1_194 t1_195 t1_196 t1_197 t1_198 t1_199 t1_200 t1_201 t1_202 t1_203 t1_204 t1_205 t1_206 t1_207 t1_208 t1_209 t1_210 t1_211 t1_212 t1_213 t1_214 t1_215 t1_216 t1_217 t1_218 t1_219 t1_220 t1_221 t1_222 t1_223 t1_224 t1_225 t1_226 t1_227 t1_228 t1_229 t1_230 t1_231 t1_232 t1_233 t1_234 t1_235 t1_236 t1_237 t1_238 ea Kl1 BF_l1 B0_l1 B1_l1 B2_l1 B3_l1 B4_l1 B5_l1
      subst ea
      have zl1_BF := BF_l1.lies
      have zl1_B0 := B0_l1.lies
      have zl1_B1 := B1_l1.lies
      have zl1_B2 := B2_l1.lies
      have zl1_B3 := B3_l1.lies
      have zl1_B4 := B4_l1.lies
      have zl1_B5 := B5_l1.lies
      by_cases hc1 : (M : Int) = 1
      · have Hhc1 : Hid ((M : Int) = 1) := hc1
        have hc1a : (M : Int) ≤ 1 := by omega
        have hc1b : 1 ≤ (M : Int) := by omega
        clear hc1
        have c19_B3_0 : Wl1.cell? ⟨w.heap.size + 1 + 1 + 1, 8, none⟩ = some (.int .i64 ((triN P k M) 8)) := row_c B3_l1 8 (by omega)
        have c19_B4_1 : Wl1.cell? ⟨w1.heap.size, 8, none⟩ = some (.int .i64 ((triN D k M) 8)) := row_c B4_l1 8 (by omega)
        have c19_B5_2 : Wl1.cell? ⟨w2.heap.size, 8, none⟩ = some (.int .i64 ((triN Q k M) 8)) := row_c B5_l1 8 (by omega)
        have g19_B3_3 := row_f B3_l1 8 (by omega)
        have g19_B4_4 := row_f B4_l1 8 (by omega)
        have g19_B5_5 := row_f B5_l1 8 (by omega)
        go_wp2_with fail
        clear c19_B3_0 c19_B4_1 c19_B5_2 g19_B3_3 g19_B4_4 g19_B5_5
        have Q_BF := (((BF_l1.new (w.heap.size + 1 + 1 + 1) 8 (Nat.ne_of_lt y4_BF) (.int .i64 s)).new w1.heap.size 8 (Nat.ne_of_lt y5_BF) (.int .i64 c)).new w2.heap.size 8 (Nat.ne_of_lt y6_BF) (.int .i64 1099511627776))
        have Q_B0 := (((B0_l1.new (w.heap.size + 1 + 1 + 1) 8 (Nat.ne_of_lt y4_B0) (.int .i64 s)).new w1.heap.size 8 (Nat.ne_of_lt y5_B0) (.int .i64 c)).new w2.heap.size 8 (Nat.ne_of_lt y6_B0) (.int .i64 1099511627776))
        have Q_B1 := (((B1_l1.new (w.heap.size + 1 + 1 + 1) 8 (Nat.ne_of_lt y4_B1) (.int .i64 s)).new w1.heap.size 8 (Nat.ne_of_lt y5_B1) (.int .i64 c)).new w2.heap.size 8 (Nat.ne_of_lt y6_B1) (.int .i64 1099511627776))
        have Q_B2 := (((B2_l1.new (w.heap.size + 1 + 1 + 1) 8 (Nat.ne_of_lt y4_B2) (.int .i64 s)).new w1.heap.size 8 (Nat.ne_of_lt y5_B2) (.int .i64 c)).new w2.heap.size 8 (Nat.ne_of_lt y6_B2) (.int .i64 1099511627776))
        have Q_B3 := (((row_put B3_l1 8 (by omega) s).new w1.heap.size 8 (Nat.ne_of_lt y5_B3) (.int .i64 c)).new w2.heap.size 8 (Nat.ne_of_lt y6_B3) (.int .i64 1099511627776))
        have Q_B4 := ((row_put (B4_l1.new (w.heap.size + 1 + 1 + 1) 8 (Nat.ne_of_gt y5_B3) (.int .i64 s)) 8 (by omega) c).new w2.heap.size 8 (Nat.ne_of_lt y6_B4) (.int .i64 1099511627776))
        have Q_B5 := (row_put ((B5_l1.new (w.heap.size + 1 + 1 + 1) 8 (Nat.ne_of_gt y6_B3) (.int .i64 s)).new w1.heap.size 8 (Nat.ne_of_gt y6_B4) (.int .i64 c)) 8 (by omega) 1099511627776)
        have Q_base := (((Kl1.new (w.heap.size + 1 + 1 + 1) 8 (by omega) (.int .i64 s)).new w1.heap.size 8 (by omega) (.int .i64 c)).new w2.heap.size 8 (by omega) (.int .i64 1099511627776))
        obtain rfl := HM.out
        rw [hJ0.out]
        intro G_ hG_
        exact hG_ _ _ _ _ _ _ _ _ _ _ _ _ _ _ _ _ _ _ _ _ _ _ _ _ _ _ _ _ _ _ _ _ _ _ _ _ _ _ _ _ _ _ _ _ _ _ _ _ _ _ _ _ _ _ _ _ _ _ _ _ _ _ _ _ _ _ _ _ _ _ _ _ _ _ _ _ _ _ _ _ _ _ _ _ _ _ _ _ _ _ _ _ _ _ _ _ _ _ _ _ _ _ _ _ _ _ _ _ _ _ _ _ _ _ _ _ _ _ _ _ _ _ _ _ _ _ _ _ _ _ _ _ _ _ _ _ _ _ _ _ _ _ _ _ _ _ _ _ _ _ _ _ _ _ _ _ _ _ _ _ _ _ _ _ _ _ _ _ _ _ _ _ _ _ _ _ _ _ _ _ _ _ _ _ _ _ _ _ _ _ _ _ _ _ _ _ _ _ _ _ _ _ _ _ _ _ _ _ _ _ _ _ _ _ _ _ _ _ _ _ _ _ _ _ _ _ _ _ _ rfl Q_base Q_BF Q_B0 Q_B1 Q_B2 ((Q_B3).fn (triN_one P (by omega) Z.p1)) ((Q_B4).fn (triN_one D (by omega) Z.d1)) ((Q_B5).fn (triN_one Q (by omega) Z.q1))
      · have Hhc1 : Hid (¬ (M : Int) = 1) := hc1
        have J := Z.J k (by have := Hhc1.out; omega) hk
        rw [HM.out, ← triN_even P hk, ← triN_even D hk, ← triN_even Q hk, HM.out] at J
        have eMj : (k : Int) + 1 = (M : Int) := by omega
        rw [eMj] at J
        clear eMj
        have hs4 : mulS false c (updF (triN P k M) (M * 7 + M) (P M M) (k * 7 + k)) = (J.v4, false) := by rw [show updF (triN P k M) (M * 7 + M) (P M M) (k * 7 + k) = triN P k M (k * 7 + k) from if_neg (by omega)]; exact J.h4
        go_wp2_with fail
        refine (rPart_any b false 1099511627776 ((2 * (M : Int)) - 1) (2 * (M : Int)) _ BF_l1).mono ?_
        rintro e w2004 ⟨rfl, f2004, k2004⟩
        rw [J.hp] at f2004 ⊢
        dsimp only at f2004 ⊢
        have K2004 : Kept b w w2004 := Kept.trans Kl1 k2004
        have B0_2004 : Arr w.heap.size (row 49 (fun _ => 0)) w2004 := B0_l1.kept k2004 (Nat.ne_of_gt y1_BF)
        have B1_2004 : Arr (w.heap.size + 1) (row 49 (fun _ => 0)) w2004 := B1_l1.kept k2004 (Nat.ne_of_gt y2_BF)
        have B2_2004 : Arr (w.heap.size + 1 + 1) (row 49 (fun _ => 0)) w2004 := B2_l1.kept k2004 (Nat.ne_of_gt y3_BF)
        have B3_2004 : Arr (w.heap.size + 1 + 1 + 1) (row 49 (triN P k M)) w2004 := B3_l1.kept k2004 (Nat.ne_of_gt y4_BF)
        have B4_2004 : Arr w1.heap.size (row 49 (triN D k M)) w2004 := B4_l1.kept k2004 (Nat.ne_of_gt y5_BF)
        have B5_2004 : Arr w2.heap.size (row 49 (triN Q k M)) w2004 := B5_l1.kept k2004 (Nat.ne_of_gt y6_BF)
        have z2004 := B5_2004.lies
        clear BF_l1 B0_l1 B1_l1 B2_l1 B3_l1 B4_l1 B5_l1 k2004
        go_wp2_with fail
        refine (rSqrt_any b false J.p _ f2004).mono ?_
        rintro e w2005 ⟨rfl, f2005, k2005⟩
        rw [J.hj] at f2005 ⊢
        dsimp only at f2005 ⊢
        have K2005 : Kept b w w2005 := Kept.trans K2004 k2005
        have B0_2005 : Arr w.heap.size (row 49 (fun _ => 0)) w2005 := B0_2004.kept k2005 (Nat.ne_of_gt y1_BF)
        have B1_2005 : Arr (w.heap.size + 1) (row 49 (fun _ => 0)) w2005 := B1_2004.kept k2005 (Nat.ne_of_gt y2_BF)
        have B2_2005 : Arr (w.heap.size + 1 + 1) (row 49 (fun _ => 0)) w2005 := B2_2004.kept k2005 (Nat.ne_of_gt y3_BF)
        have B3_2005 : Arr (w.heap.size + 1 + 1 + 1) (row 49 (triN P k M)) w2005 := B3_2004.kept k2005 (Nat.ne_of_gt y4_BF)
        have B4_2005 : Arr w1.heap.size (row 49 (triN D k M)) w2005 := B4_2004.kept k2005 (Nat.ne_of_gt y5_BF)
        have B5_2005 : Arr w2.heap.size (row 49 (triN Q k M)) w2005 := B5_2004.kept k2005 (Nat.ne_of_gt y6_BF)
        have z2005 := B5_2005.lies
        clear K2004 f2004 B0_2004 B1_2004 B2_2004 B3_2004 B4_2004 B5_2004 k2005
        go_wp2_with fail
        refine wp_region_held_drew (S := fun w' => NearR (w.heap.size + 1 + 1 + 1) 49 (triN P k M) (M * 7 + M) w') (by kernel_rfl) (NearR.same B3_2005.drew) (fun hHeld => ?_)
        refine take_at (i := 0) (v := ?v109) rfl (by kernel_rfl) (by kernel_rfl) (by kernel_rfl) (fun _ _ _ h => h) (Or.inl ⟨by rfl, ?y109⟩) hHeld ?t109
        case y109 => (intro wx hSw; go_simp <;> with_reducible rfl)
        simp only [Act.put, List.setIfInBounds_toArray, List.set_cons_zero, List.set_cons_succ]
        refine take_at (i := 1) (v := ?v110) rfl (by kernel_rfl) (by kernel_rfl) (by kernel_rfl) (fun _ _ _ h => h) (Or.inl ⟨by rfl, ?y110⟩) hHeld ?t110
        case y110 => (intro wx hSw; go_simp <;> with_reducible rfl)
        simp only [Act.put, List.setIfInBounds_toArray, List.set_cons_zero, List.set_cons_succ]
        refine take_at (i := 2) (v := ?v111) rfl (by kernel_rfl) (by kernel_rfl) (by kernel_rfl) (fun _ _ _ h => h) (Or.inl ⟨by rfl, ?y111⟩) hHeld ?t111
        case y111 => (intro wx hSw; go_simp <;> with_reducible rfl)
        simp only [Act.put, List.setIfInBounds_toArray, List.set_cons_zero, List.set_cons_succ]
        refine take_at (i := 3) (v := ?v112) rfl (by kernel_rfl) (by kernel_rfl) (by kernel_rfl) (fun _ _ _ h => h) (Or.inl ⟨by rfl, ?y112⟩) hHeld ?t112
        case y112 => (intro wx hSw; go_simp <;> with_reducible rfl)
        simp only [Act.put, List.setIfInBounds_toArray, List.set_cons_zero, List.set_cons_succ]
        refine take_at (i := 4) (v := ?v113) rfl (by kernel_rfl) (by kernel_rfl) (by kernel_rfl) (fun _ _ _ h => h) (Or.inl ⟨by rfl, ?y113⟩) hHeld ?t113
        case y113 => (intro wx hSw; go_simp <;> with_reducible rfl)
        simp only [Act.put, List.setIfInBounds_toArray, List.set_cons_zero, List.set_cons_succ]
        refine take_at (i := 5) (v := ?v114) rfl (by kernel_rfl) (by kernel_rfl) (by kernel_rfl) (fun _ _ _ h => h) (Or.inl ⟨by rfl, ?y114⟩) hHeld ?t114
        case y114 => (intro wx hSw; go_simp <;> with_reducible rfl)
        simp only [Act.put, List.setIfInBounds_toArray, List.set_cons_zero, List.set_cons_succ]
        refine take_at (i := 6) (v := ?v115) rfl (by kernel_rfl) (by kernel_rfl) (by kernel_rfl) (fun _ _ _ h => h) (Or.inl ⟨by rfl, ?y115⟩) hHeld ?t115
        case y115 => (intro wx hSw; go_simp <;> with_reducible rfl)
        simp only [Act.put, List.setIfInBounds_toArray, List.set_cons_zero, List.set_cons_succ]
        refine take_at (i := 7) (v := ?v116) rfl (by kernel_rfl) (by kernel_rfl) (by kernel_rfl) (fun _ _ _ h => h) (Or.inl ⟨by rfl, ?y116⟩) hHeld ?t116
        case y116 => (intro wx hSw; go_simp <;> with_reducible rfl)
        simp only [Act.put, List.setIfInBounds_toArray, List.set_cons_zero, List.set_cons_succ]
        rw [IntWalk.i64_in (k : Int) (by omega)]
        refine take_at (i := 8) (v := ?v117) rfl (by kernel_rfl) (by kernel_rfl) (by kernel_rfl) (fun _ _ _ h => h) (Or.inl ⟨by rfl, ?y117⟩) hHeld ?t117
        case y117 => (intro wx hSw; go_simp <;> with_reducible rfl)
        simp only [Act.put, List.setIfInBounds_toArray, List.set_cons_zero, List.set_cons_succ]
        refine take_at (i := 9) (v := ?v118) rfl (by kernel_rfl) (by kernel_rfl) (by kernel_rfl) (fun _ _ _ h => h) (Or.inl ⟨by rfl, ?y118⟩) hHeld ?t118
        case y118 => (intro wx hSw; go_simp <;> with_reducible rfl)
        simp only [Act.put, List.setIfInBounds_toArray, List.set_cons_zero, List.set_cons_succ]
        rw [IntWalk.i64_in (k : Int) (by omega)]
        refine take_at (i := 10) (v := ?v119) rfl (by kernel_rfl) (by kernel_rfl) (by kernel_rfl) (fun _ _ _ h => h) (Or.inl ⟨by rfl, ?y119⟩) hHeld ?t119
        case y119 => (intro wx hSw; have hi0 : (k : Int) < 7 := (by omega); go_simp <;> with_reducible rfl)
        simp only [Act.put, List.setIfInBounds_toArray, List.set_cons_zero, List.set_cons_succ]
        refine take_at (i := 11) (v := ?v120) rfl (by kernel_rfl) (by kernel_rfl) (by kernel_rfl) (fun _ _ _ h => h) (Or.inl ⟨by rfl, ?y120⟩) hHeld ?t120
        case y120 => (intro wx hSw; have hi0 : (k : Int) < 7 := (by omega); go_simp <;> with_reducible rfl)
        simp only [Act.put, List.setIfInBounds_toArray, List.set_cons_zero, List.set_cons_succ]
        refine take_at (i := 12) (v := ?v121) rfl (by kernel_rfl) (by kernel_rfl) (by kernel_rfl) (fun _ _ _ h => h) (Or.inl ⟨by rfl, ?y121⟩) hHeld ?t121
        case y121 => (intro wx hSw; have hc0 : wx.cell? ⟨w.heap.size + 1 + 1 + 1, k * 7 + k, none⟩ = some (.int .i64 ((triN P k M) (k * 7 + k))) := near_c hSw (k * 7 + k) (by omega) (by omega); go_simp <;> with_reducible rfl)
        simp only [Act.put, List.setIfInBounds_toArray, List.set_cons_zero, List.set_cons_succ]
        refine take_at (i := 15) (v := ?v122) rfl (by kernel_rfl) (by kernel_rfl) (by kernel_rfl) (fun _ _ _ h => h) (Or.inl ⟨by rfl, ?y122⟩) hHeld ?t122
        case y122 => (intro wx hSw; have hi0 : (M : Int) < 7 := (by omega); go_simp <;> with_reducible rfl)
        simp only [Act.put, List.setIfInBounds_toArray, List.set_cons_zero, List.set_cons_succ]
        refine call_at (i := 13) (by kernel_rfl) rfl (fun K hK => ?_)
        go_simp
        refine (rMul_any b false s ((triN P k M) (k * 7 + k)) _ f2005.drew).mono ?_
        rintro e w2006 ⟨rfl, f2006, k2006⟩
        rw [J.h1] at f2006 ⊢
        dsimp only at f2006 ⊢
        have K2006 : Kept b w w2006 := Kept.trans K2005.drew k2006
        have B0_2006 : Arr w.heap.size (row 49 (fun _ => 0)) w2006 := B0_2005.drew.kept k2006 (Nat.ne_of_gt y1_BF)
        have B1_2006 : Arr (w.heap.size + 1) (row 49 (fun _ => 0)) w2006 := B1_2005.drew.kept k2006 (Nat.ne_of_gt y2_BF)
        have B2_2006 : Arr (w.heap.size + 1 + 1) (row 49 (fun _ => 0)) w2006 := B2_2005.drew.kept k2006 (Nat.ne_of_gt y3_BF)
        have B3_2006 : Arr (w.heap.size + 1 + 1 + 1) (row 49 (triN P k M)) w2006 := B3_2005.drew.kept k2006 (Nat.ne_of_gt y4_BF)
        have B4_2006 : Arr w1.heap.size (row 49 (triN D k M)) w2006 := B4_2005.drew.kept k2006 (Nat.ne_of_gt y5_BF)
        have B5_2006 : Arr w2.heap.size (row 49 (triN Q k M)) w2006 := B5_2005.drew.kept k2006 (Nat.ne_of_gt y6_BF)
        have z2006 := B5_2006.lies
        clear hHeld
        refine hK.out _ _ (NearR.same B3_2006) (fun hHeld => ?_)
        clear hK K K2005 f2005 B0_2005 B1_2005 B2_2005 B3_2005 B4_2005 B5_2005 k2006
        refine call_at (i := 14) (by kernel_rfl) rfl (fun K hK => ?_)
        go_simp
        refine (rMul_any b false J.j J.v1 _ f2006).mono ?_
        rintro e w2007 ⟨rfl, f2007, k2007⟩
        rw [J.h2] at f2007 ⊢
        dsimp only at f2007 ⊢
        have K2007 : Kept b w w2007 := Kept.trans K2006 k2007
        have B0_2007 : Arr w.heap.size (row 49 (fun _ => 0)) w2007 := B0_2006.kept k2007 (Nat.ne_of_gt y1_BF)
        have B1_2007 : Arr (w.heap.size + 1) (row 49 (fun _ => 0)) w2007 := B1_2006.kept k2007 (Nat.ne_of_gt y2_BF)
        have B2_2007 : Arr (w.heap.size + 1 + 1) (row 49 (fun _ => 0)) w2007 := B2_2006.kept k2007 (Nat.ne_of_gt y3_BF)
        have B3_2007 : Arr (w.heap.size + 1 + 1 + 1) (row 49 (triN P k M)) w2007 := B3_2006.kept k2007 (Nat.ne_of_gt y4_BF)
        have B4_2007 : Arr w1.heap.size (row 49 (triN D k M)) w2007 := B4_2006.kept k2007 (Nat.ne_of_gt y5_BF)
        have B5_2007 : Arr w2.heap.size (row 49 (triN Q k M)) w2007 := B5_2006.kept k2007 (Nat.ne_of_gt y6_BF)
        have z2007 := B5_2007.lies
        clear hHeld
        refine hK.out _ _ (NearR.same B3_2007) (fun hHeld => ?_)
        clear hK K K2006 f2006 B0_2006 B1_2006 B2_2006 B3_2006 B4_2006 B5_2006 k2007
        refine take_at (i := 16) (v := ?v123) rfl (by kernel_rfl) (by kernel_rfl) (by kernel_rfl) (fun _ _ _ h => h) (Or.inl ⟨by rfl, ?y123⟩) hHeld ?t123
        case y123 => (intro wx hSw; have hi0 : (M : Int) < 7 := (by omega); go_simp <;> with_reducible rfl)
        simp only [Act.put, List.setIfInBounds_toArray, List.set_cons_zero, List.set_cons_succ]
        refine call_at (i := 17) (by kernel_rfl) rfl (fun K hK => ?_)
        have c22_B3_0 : w2007.cell? ⟨w.heap.size + 1 + 1 + 1, M * 7 + M, none⟩ = some (.int .i64 ((triN P k M) (M * 7 + M))) := row_c B3_2007 (M * 7 + M) (by omega)
        have g22_B3_1 := row_f B3_2007 (M * 7 + M) (by omega)
        go_simp
        clear hHeld
        refine hK.out _ _ (NearR.upd (row_put B3_2007 (M * 7 + M) (by omega) (P M M))) (fun hHeld => ?_)
        clear hK K c22_B3_0 g22_B3_1
        refine wpAnyH_done (by kernel_rfl) ?_ _
        clear hHeld
        go_wp2_with fail
        refine wp_region_held_drew (S := fun w' => NearR w1.heap.size 49 (triN D k M) (M * 7 + M) w' ∧ Arr (w.heap.size + 1 + 1 + 1) (row 49 (updF (triN P k M) (M * 7 + M) (P M M))) w') (by kernel_rfl) ⟨(NearR.same (B4_2007.new (w.heap.size + 1 + 1 + 1) (M * 7 + M) (Nat.ne_of_gt y5_B3) (.int .i64 (P M M))).drew), (row_put B3_2007 (M * 7 + M) (by omega) (P M M)).drew⟩ (fun hHeld => ?_)
        refine take_at (i := 0) (v := ?v124) rfl (by kernel_rfl) (by kernel_rfl) (by kernel_rfl) (fun _ _ _ h => h) (Or.inl ⟨by rfl, ?y124⟩) hHeld ?t124
        case y124 => (intro wx hSw; go_simp <;> with_reducible rfl)
        simp only [Act.put, List.setIfInBounds_toArray, List.set_cons_zero, List.set_cons_succ]
        refine take_at (i := 1) (v := ?v125) rfl (by kernel_rfl) (by kernel_rfl) (by kernel_rfl) (fun _ _ _ h => h) (Or.inl ⟨by rfl, ?y125⟩) hHeld ?t125
        case y125 => (intro wx hSw; go_simp <;> with_reducible rfl)
        simp only [Act.put, List.setIfInBounds_toArray, List.set_cons_zero, List.set_cons_succ]
        refine take_at (i := 2) (v := ?v126) rfl (by kernel_rfl) (by kernel_rfl) (by kernel_rfl) (fun _ _ _ h => h) (Or.inl ⟨by rfl, ?y126⟩) hHeld ?t126
        case y126 => (intro wx hSw; go_simp <;> with_reducible rfl)
        simp only [Act.put, List.setIfInBounds_toArray, List.set_cons_zero, List.set_cons_succ]
        refine take_at (i := 3) (v := ?v127) rfl (by kernel_rfl) (by kernel_rfl) (by kernel_rfl) (fun _ _ _ h => h) (Or.inl ⟨by rfl, ?y127⟩) hHeld ?t127
        case y127 => (intro wx hSw; go_simp <;> with_reducible rfl)
        simp only [Act.put, List.setIfInBounds_toArray, List.set_cons_zero, List.set_cons_succ]
        refine take_at (i := 4) (v := ?v128) rfl (by kernel_rfl) (by kernel_rfl) (by kernel_rfl) (fun _ _ _ h => h) (Or.inl ⟨by rfl, ?y128⟩) hHeld ?t128
        case y128 => (intro wx hSw; go_simp <;> with_reducible rfl)
        simp only [Act.put, List.setIfInBounds_toArray, List.set_cons_zero, List.set_cons_succ]
        refine take_at (i := 5) (v := ?v129) rfl (by kernel_rfl) (by kernel_rfl) (by kernel_rfl) (fun _ _ _ h => h) (Or.inl ⟨by rfl, ?y129⟩) hHeld ?t129
        case y129 => (intro wx hSw; go_simp <;> with_reducible rfl)
        simp only [Act.put, List.setIfInBounds_toArray, List.set_cons_zero, List.set_cons_succ]
        refine take_at (i := 6) (v := ?v130) rfl (by kernel_rfl) (by kernel_rfl) (by kernel_rfl) (fun _ _ _ h => h) (Or.inl ⟨by rfl, ?y130⟩) hHeld ?t130
        case y130 => (intro wx hSw; go_simp <;> with_reducible rfl)
        simp only [Act.put, List.setIfInBounds_toArray, List.set_cons_zero, List.set_cons_succ]
        refine take_at (i := 7) (v := ?v131) rfl (by kernel_rfl) (by kernel_rfl) (by kernel_rfl) (fun _ _ _ h => h) (Or.inl ⟨by rfl, ?y131⟩) hHeld ?t131
        case y131 => (intro wx hSw; go_simp <;> with_reducible rfl)
        simp only [Act.put, List.setIfInBounds_toArray, List.set_cons_zero, List.set_cons_succ]
        refine take_at (i := 8) (v := ?v132) rfl (by kernel_rfl) (by kernel_rfl) (by kernel_rfl) (fun _ _ _ h => h) (Or.inl ⟨by rfl, ?y132⟩) hHeld ?t132
        case y132 => (intro wx hSw; go_simp <;> with_reducible rfl)
        simp only [Act.put, List.setIfInBounds_toArray, List.set_cons_zero, List.set_cons_succ]
        rw [IntWalk.i64_in (k : Int) (by omega)]
        refine take_at (i := 9) (v := ?v133) rfl (by kernel_rfl) (by kernel_rfl) (by kernel_rfl) (fun _ _ _ h => h) (Or.inl ⟨by rfl, ?y133⟩) hHeld ?t133
        case y133 => (intro wx hSw; go_simp <;> with_reducible rfl)
        simp only [Act.put, List.setIfInBounds_toArray, List.set_cons_zero, List.set_cons_succ]
        refine take_at (i := 10) (v := ?v134) rfl (by kernel_rfl) (by kernel_rfl) (by kernel_rfl) (fun _ _ _ h => h) (Or.inl ⟨by rfl, ?y134⟩) hHeld ?t134
        case y134 => (intro wx hSw; go_simp <;> with_reducible rfl)
        simp only [Act.put, List.setIfInBounds_toArray, List.set_cons_zero, List.set_cons_succ]
        rw [IntWalk.i64_in (k : Int) (by omega)]
        refine take_at (i := 11) (v := ?v135) rfl (by kernel_rfl) (by kernel_rfl) (by kernel_rfl) (fun _ _ _ h => h) (Or.inl ⟨by rfl, ?y135⟩) hHeld ?t135
        case y135 => (intro wx hSw; have hi0 : (k : Int) < 7 := (by omega); go_simp <;> with_reducible rfl)
        simp only [Act.put, List.setIfInBounds_toArray, List.set_cons_zero, List.set_cons_succ]
        refine take_at (i := 12) (v := ?v136) rfl (by kernel_rfl) (by kernel_rfl) (by kernel_rfl) (fun _ _ _ h => h) (Or.inl ⟨by rfl, ?y136⟩) hHeld ?t136
        case y136 => (intro wx hSw; have hi0 : (k : Int) < 7 := (by omega); go_simp <;> with_reducible rfl)
        simp only [Act.put, List.setIfInBounds_toArray, List.set_cons_zero, List.set_cons_succ]
        refine take_at (i := 13) (v := ?v137) rfl (by kernel_rfl) (by kernel_rfl) (by kernel_rfl) (fun _ _ _ h => h) (Or.inl ⟨by rfl, ?y137⟩) hHeld ?t137
        case y137 => (intro wx hSw; have hc0 : wx.cell? ⟨w1.heap.size, k * 7 + k, none⟩ = some (.int .i64 ((triN D k M) (k * 7 + k))) := near_c hSw.1 (k * 7 + k) (by omega) (by omega); go_simp <;> with_reducible rfl)
        simp only [Act.put, List.setIfInBounds_toArray, List.set_cons_zero, List.set_cons_succ]
        refine take_at (i := 15) (v := ?v138) rfl (by kernel_rfl) (by kernel_rfl) (by kernel_rfl) (fun _ _ _ h => h) (Or.inl ⟨by rfl, ?y138⟩) hHeld ?t138
        case y138 => (intro wx hSw; go_simp <;> with_reducible rfl)
        simp only [Act.put, List.setIfInBounds_toArray, List.set_cons_zero, List.set_cons_succ]
        refine take_at (i := 16) (v := ?v139) rfl (by kernel_rfl) (by kernel_rfl) (by kernel_rfl) (fun _ _ _ h => h) (Or.inl ⟨by rfl, ?y139⟩) hHeld ?t139
        case y139 => (intro wx hSw; go_simp <;> with_reducible rfl)
        simp only [Act.put, List.setIfInBounds_toArray, List.set_cons_zero, List.set_cons_succ]
        refine take_at (i := 17) (v := ?v140) rfl (by kernel_rfl) (by kernel_rfl) (by kernel_rfl) (fun _ _ _ h => h) (Or.inl ⟨by rfl, ?y140⟩) hHeld ?t140
        case y140 => (intro wx hSw; go_simp <;> with_reducible rfl)
        simp only [Act.put, List.setIfInBounds_toArray, List.set_cons_zero, List.set_cons_succ]
        refine take_at (i := 18) (v := ?v141) rfl (by kernel_rfl) (by kernel_rfl) (by kernel_rfl) (fun _ _ _ h => h) (Or.inl ⟨by rfl, ?y141⟩) hHeld ?t141
        case y141 => (intro wx hSw; go_simp <;> with_reducible rfl)
        simp only [Act.put, List.setIfInBounds_toArray, List.set_cons_zero, List.set_cons_succ]
        rw [IntWalk.i64_in (k : Int) (by omega)]
        refine take_at (i := 19) (v := ?v142) rfl (by kernel_rfl) (by kernel_rfl) (by kernel_rfl) (fun _ _ _ h => h) (Or.inl ⟨by rfl, ?y142⟩) hHeld ?t142
        case y142 => (intro wx hSw; go_simp <;> with_reducible rfl)
        simp only [Act.put, List.setIfInBounds_toArray, List.set_cons_zero, List.set_cons_succ]
        refine take_at (i := 20) (v := ?v143) rfl (by kernel_rfl) (by kernel_rfl) (by kernel_rfl) (fun _ _ _ h => h) (Or.inl ⟨by rfl, ?y143⟩) hHeld ?t143
        case y143 => (intro wx hSw; go_simp <;> with_reducible rfl)
        simp only [Act.put, List.setIfInBounds_toArray, List.set_cons_zero, List.set_cons_succ]
        rw [IntWalk.i64_in (k : Int) (by omega)]
        refine take_at (i := 21) (v := ?v144) rfl (by kernel_rfl) (by kernel_rfl) (by kernel_rfl) (fun _ _ _ h => h) (Or.inl ⟨by rfl, ?y144⟩) hHeld ?t144
        case y144 => (intro wx hSw; have hi0 : (k : Int) < 7 := (by omega); go_simp <;> with_reducible rfl)
        simp only [Act.put, List.setIfInBounds_toArray, List.set_cons_zero, List.set_cons_succ]
        refine take_at (i := 22) (v := ?v145) rfl (by kernel_rfl) (by kernel_rfl) (by kernel_rfl) (fun _ _ _ h => h) (Or.inl ⟨by rfl, ?y145⟩) hHeld ?t145
        case y145 => (intro wx hSw; have hi0 : (k : Int) < 7 := (by omega); go_simp <;> with_reducible rfl)
        simp only [Act.put, List.setIfInBounds_toArray, List.set_cons_zero, List.set_cons_succ]
        refine take_at (i := 23) (v := ?v146) rfl (by kernel_rfl) (by kernel_rfl) (by kernel_rfl) (fun _ _ _ h => h) (Or.inl ⟨by rfl, ?y146⟩) hHeld ?t146
        case y146 => (intro wx hSw; have hc0 : wx.cell? ⟨w.heap.size + 1 + 1 + 1, k * 7 + k, none⟩ = some (.int .i64 ((updF (triN P k M) (M * 7 + M) (P M M)) (k * 7 + k))) := row_c hSw.2 (k * 7 + k) (by omega); go_simp <;> with_reducible rfl)
        simp only [Act.put, List.setIfInBounds_toArray, List.set_cons_zero, List.set_cons_succ]
        refine take_at (i := 27) (v := ?v147) rfl (by kernel_rfl) (by kernel_rfl) (by kernel_rfl) (fun _ _ _ h => h) (Or.inl ⟨by rfl, ?y147⟩) hHeld ?t147
        case y147 => (intro wx hSw; have hi0 : (M : Int) < 7 := (by omega); go_simp <;> with_reducible rfl)
        simp only [Act.put, List.setIfInBounds_toArray, List.set_cons_zero, List.set_cons_succ]
        refine call_at (i := 14) (by kernel_rfl) rfl (fun K hK => ?_)
        go_simp
        refine (rMul_any b false s ((triN D k M) (k * 7 + k)) _ (f2007.new (w.heap.size + 1 + 1 + 1) (M * 7 + M) (Nat.ne_of_lt y4_BF) (.int .i64 (P M M))).drew).mono ?_
        rintro e w2008 ⟨rfl, f2008, k2008⟩
        rw [J.h3] at f2008 ⊢
        dsimp only at f2008 ⊢
        have K2008 : Kept b w w2008 := Kept.trans (K2007.new _ _ (by omega) _).drew k2008
        have B0_2008 : Arr w.heap.size (row 49 (fun _ => 0)) w2008 := (B0_2007.new (w.heap.size + 1 + 1 + 1) (M * 7 + M) (Nat.ne_of_lt y4_B0) (.int .i64 (P M M))).drew.kept k2008 (Nat.ne_of_gt y1_BF)
        have B1_2008 : Arr (w.heap.size + 1) (row 49 (fun _ => 0)) w2008 := (B1_2007.new (w.heap.size + 1 + 1 + 1) (M * 7 + M) (Nat.ne_of_lt y4_B1) (.int .i64 (P M M))).drew.kept k2008 (Nat.ne_of_gt y2_BF)
        have B2_2008 : Arr (w.heap.size + 1 + 1) (row 49 (fun _ => 0)) w2008 := (B2_2007.new (w.heap.size + 1 + 1 + 1) (M * 7 + M) (Nat.ne_of_lt y4_B2) (.int .i64 (P M M))).drew.kept k2008 (Nat.ne_of_gt y3_BF)
        have B3_2008 : Arr (w.heap.size + 1 + 1 + 1) (row 49 (updF (triN P k M) (M * 7 + M) (P M M))) w2008 := (row_put B3_2007 (M * 7 + M) (by omega) (P M M)).drew.kept k2008 (Nat.ne_of_gt y4_BF)
        have B4_2008 : Arr w1.heap.size (row 49 (triN D k M)) w2008 := (B4_2007.new (w.heap.size + 1 + 1 + 1) (M * 7 + M) (Nat.ne_of_gt y5_B3) (.int .i64 (P M M))).drew.kept k2008 (Nat.ne_of_gt y5_BF)
        have B5_2008 : Arr w2.heap.size (row 49 (triN Q k M)) w2008 := (B5_2007.new (w.heap.size + 1 + 1 + 1) (M * 7 + M) (Nat.ne_of_gt y6_B3) (.int .i64 (P M M))).drew.kept k2008 (Nat.ne_of_gt y6_BF)
        have z2008 := B5_2008.lies
        clear hHeld
        refine hK.out _ _ ⟨(NearR.same B4_2008), B3_2008⟩ (fun hHeld => ?_)
        clear hK K K2007 f2007 B0_2007 B1_2007 B2_2007 B3_2007 B4_2007 B5_2007 k2008
        refine call_at (i := 24) (by kernel_rfl) rfl (fun K hK => ?_)
        go_simp
        refine (rMul_any b false c ((updF (triN P k M) (M * 7 + M) (P M M)) (k * 7 + k)) _ f2008).mono ?_
        rintro e w2009 ⟨rfl, f2009, k2009⟩
        rw [hs4] at f2009 ⊢
        dsimp only at f2009 ⊢
        have K2009 : Kept b w w2009 := Kept.trans K2008 k2009
        have B0_2009 : Arr w.heap.size (row 49 (fun _ => 0)) w2009 := B0_2008.kept k2009 (Nat.ne_of_gt y1_BF)
        have B1_2009 : Arr (w.heap.size + 1) (row 49 (fun _ => 0)) w2009 := B1_2008.kept k2009 (Nat.ne_of_gt y2_BF)
        have B2_2009 : Arr (w.heap.size + 1 + 1) (row 49 (fun _ => 0)) w2009 := B2_2008.kept k2009 (Nat.ne_of_gt y3_BF)
        have B3_2009 : Arr (w.heap.size + 1 + 1 + 1) (row 49 (updF (triN P k M) (M * 7 + M) (P M M))) w2009 := B3_2008.kept k2009 (Nat.ne_of_gt y4_BF)
        have B4_2009 : Arr w1.heap.size (row 49 (triN D k M)) w2009 := B4_2008.kept k2009 (Nat.ne_of_gt y5_BF)
        have B5_2009 : Arr w2.heap.size (row 49 (triN Q k M)) w2009 := B5_2008.kept k2009 (Nat.ne_of_gt y6_BF)
        have z2009 := B5_2009.lies
        clear hHeld
        refine hK.out _ _ ⟨(NearR.same B4_2009), B3_2009⟩ (fun hHeld => ?_)
        clear hK K K2008 f2008 B0_2008 B1_2008 B2_2008 B3_2008 B4_2008 B5_2008 k2009
        refine call_at (i := 25) (by kernel_rfl) rfl (fun K hK => ?_)
        go_simp
        refine (rAdd_any b false J.v3 J.v4 _ f2009).mono ?_
        rintro e w2010 ⟨rfl, f2010, k2010⟩
        rw [J.h5] at f2010 ⊢
        dsimp only at f2010 ⊢
        have K2010 : Kept b w w2010 := Kept.trans K2009 k2010
        have B0_2010 : Arr w.heap.size (row 49 (fun _ => 0)) w2010 := B0_2009.kept k2010 (Nat.ne_of_gt y1_BF)
        have B1_2010 : Arr (w.heap.size + 1) (row 49 (fun _ => 0)) w2010 := B1_2009.kept k2010 (Nat.ne_of_gt y2_BF)
        have B2_2010 : Arr (w.heap.size + 1 + 1) (row 49 (fun _ => 0)) w2010 := B2_2009.kept k2010 (Nat.ne_of_gt y3_BF)
        have B3_2010 : Arr (w.heap.size + 1 + 1 + 1) (row 49 (updF (triN P k M) (M * 7 + M) (P M M))) w2010 := B3_2009.kept k2010 (Nat.ne_of_gt y4_BF)
        have B4_2010 : Arr w1.heap.size (row 49 (triN D k M)) w2010 := B4_2009.kept k2010 (Nat.ne_of_gt y5_BF)
        have B5_2010 : Arr w2.heap.size (row 49 (triN Q k M)) w2010 := B5_2009.kept k2010 (Nat.ne_of_gt y6_BF)
        have z2010 := B5_2010.lies
        clear hHeld
        refine hK.out _ _ ⟨(NearR.same B4_2010), B3_2010⟩ (fun hHeld => ?_)
        clear hK K K2009 f2009 B0_2009 B1_2009 B2_2009 B3_2009 B4_2009 B5_2009 k2010
        refine call_at (i := 26) (by kernel_rfl) rfl (fun K hK => ?_)
        go_simp
        refine (rMul_any b false J.j J.v5 _ f2010).mono ?_
        rintro e w2011 ⟨rfl, f2011, k2011⟩
        rw [J.h6] at f2011 ⊢
        dsimp only at f2011 ⊢
        have K2011 : Kept b w w2011 := Kept.trans K2010 k2011
        have B0_2011 : Arr w.heap.size (row 49 (fun _ => 0)) w2011 := B0_2010.kept k2011 (Nat.ne_of_gt y1_BF)
        have B1_2011 : Arr (w.heap.size + 1) (row 49 (fun _ => 0)) w2011 := B1_2010.kept k2011 (Nat.ne_of_gt y2_BF)
        have B2_2011 : Arr (w.heap.size + 1 + 1) (row 49 (fun _ => 0)) w2011 := B2_2010.kept k2011 (Nat.ne_of_gt y3_BF)
        have B3_2011 : Arr (w.heap.size + 1 + 1 + 1) (row 49 (updF (triN P k M) (M * 7 + M) (P M M))) w2011 := B3_2010.kept k2011 (Nat.ne_of_gt y4_BF)
        have B4_2011 : Arr w1.heap.size (row 49 (triN D k M)) w2011 := B4_2010.kept k2011 (Nat.ne_of_gt y5_BF)
        have B5_2011 : Arr w2.heap.size (row 49 (triN Q k M)) w2011 := B5_2010.kept k2011 (Nat.ne_of_gt y6_BF)
        have z2011 := B5_2011.lies
        clear hHeld
        refine hK.out _ _ ⟨(NearR.same B4_2011), B3_2011⟩ (fun hHeld => ?_)
        clear hK K K2010 f2010 B0_2010 B1_2010 B2_2010 B3_2010 B4_2010 B5_2010 k2011
        refine take_at (i := 28) (v := ?v148) rfl (by kernel_rfl) (by kernel_rfl) (by kernel_rfl) (fun _ _ _ h => h) (Or.inl ⟨by rfl, ?y148⟩) hHeld ?t148
        case y148 => (intro wx hSw; have hi0 : (M : Int) < 7 := (by omega); go_simp <;> with_reducible rfl)
        simp only [Act.put, List.setIfInBounds_toArray, List.set_cons_zero, List.set_cons_succ]
        refine call_at (i := 29) (by kernel_rfl) rfl (fun K hK => ?_)
        have c24_B4_0 : w2011.cell? ⟨w1.heap.size, M * 7 + M, none⟩ = some (.int .i64 ((triN D k M) (M * 7 + M))) := row_c B4_2011 (M * 7 + M) (by omega)
        have g24_B4_1 := row_f B4_2011 (M * 7 + M) (by omega)
        go_simp
        clear hHeld
        refine hK.out _ _ ⟨(NearR.upd (row_put B4_2011 (M * 7 + M) (by omega) (D M M))), (B3_2011.new w1.heap.size (M * 7 + M) (Nat.ne_of_lt y5_B3) (.int .i64 (D M M)))⟩ (fun hHeld => ?_)
        clear hK K c24_B4_0 g24_B4_1
        refine wpAnyH_done (by kernel_rfl) ?_ _
        clear hHeld
        go_wp2_with fail
        refine wp_region_held_drew (S := fun w' => NearR w2.heap.size 49 (triN Q k M) (M * 7 + M) w') (by kernel_rfl) (NearR.same (B5_2011.new w1.heap.size (M * 7 + M) (Nat.ne_of_gt y6_B4) (.int .i64 (D M M))).drew) (fun hHeld => ?_)
        refine take_at (i := 0) (v := ?v149) rfl (by kernel_rfl) (by kernel_rfl) (by kernel_rfl) (fun _ _ _ h => h) (Or.inl ⟨by rfl, ?y149⟩) hHeld ?t149
        case y149 => (intro wx hSw; go_simp <;> with_reducible rfl)
        simp only [Act.put, List.setIfInBounds_toArray, List.set_cons_zero, List.set_cons_succ]
        refine take_at (i := 1) (v := ?v150) rfl (by kernel_rfl) (by kernel_rfl) (by kernel_rfl) (fun _ _ _ h => h) (Or.inl ⟨by rfl, ?y150⟩) hHeld ?t150
        case y150 => (intro wx hSw; go_simp <;> with_reducible rfl)
        simp only [Act.put, List.setIfInBounds_toArray, List.set_cons_zero, List.set_cons_succ]
        refine take_at (i := 2) (v := ?v151) rfl (by kernel_rfl) (by kernel_rfl) (by kernel_rfl) (fun _ _ _ h => h) (Or.inl ⟨by rfl, ?y151⟩) hHeld ?t151
        case y151 => (intro wx hSw; go_simp <;> with_reducible rfl)
        simp only [Act.put, List.setIfInBounds_toArray, List.set_cons_zero, List.set_cons_succ]
        refine take_at (i := 3) (v := ?v152) rfl (by kernel_rfl) (by kernel_rfl) (by kernel_rfl) (fun _ _ _ h => h) (Or.inl ⟨by rfl, ?y152⟩) hHeld ?t152
        case y152 => (intro wx hSw; go_simp <;> with_reducible rfl)
        simp only [Act.put, List.setIfInBounds_toArray, List.set_cons_zero, List.set_cons_succ]
        refine take_at (i := 4) (v := ?v153) rfl (by kernel_rfl) (by kernel_rfl) (by kernel_rfl) (fun _ _ _ h => h) (Or.inl ⟨by rfl, ?y153⟩) hHeld ?t153
        case y153 => (intro wx hSw; go_simp <;> with_reducible rfl)
        simp only [Act.put, List.setIfInBounds_toArray, List.set_cons_zero, List.set_cons_succ]
        refine take_at (i := 5) (v := ?v154) rfl (by kernel_rfl) (by kernel_rfl) (by kernel_rfl) (fun _ _ _ h => h) (Or.inl ⟨by rfl, ?y154⟩) hHeld ?t154
        case y154 => (intro wx hSw; go_simp <;> with_reducible rfl)
        simp only [Act.put, List.setIfInBounds_toArray, List.set_cons_zero, List.set_cons_succ]
        refine take_at (i := 6) (v := ?v155) rfl (by kernel_rfl) (by kernel_rfl) (by kernel_rfl) (fun _ _ _ h => h) (Or.inl ⟨by rfl, ?y155⟩) hHeld ?t155
        case y155 => (intro wx hSw; go_simp <;> with_reducible rfl)
        simp only [Act.put, List.setIfInBounds_toArray, List.set_cons_zero, List.set_cons_succ]
        refine take_at (i := 7) (v := ?v156) rfl (by kernel_rfl) (by kernel_rfl) (by kernel_rfl) (fun _ _ _ h => h) (Or.inl ⟨by rfl, ?y156⟩) hHeld ?t156
        case y156 => (intro wx hSw; go_simp <;> with_reducible rfl)
        simp only [Act.put, List.setIfInBounds_toArray, List.set_cons_zero, List.set_cons_succ]
        rw [IntWalk.i64_in (k : Int) (by omega)]
        refine take_at (i := 8) (v := ?v157) rfl (by kernel_rfl) (by kernel_rfl) (by kernel_rfl) (fun _ _ _ h => h) (Or.inl ⟨by rfl, ?y157⟩) hHeld ?t157
        case y157 => (intro wx hSw; go_simp <;> with_reducible rfl)
        simp only [Act.put, List.setIfInBounds_toArray, List.set_cons_zero, List.set_cons_succ]
        refine take_at (i := 9) (v := ?v158) rfl (by kernel_rfl) (by kernel_rfl) (by kernel_rfl) (fun _ _ _ h => h) (Or.inl ⟨by rfl, ?y158⟩) hHeld ?t158
        case y158 => (intro wx hSw; go_simp <;> with_reducible rfl)
        simp only [Act.put, List.setIfInBounds_toArray, List.set_cons_zero, List.set_cons_succ]
        rw [IntWalk.i64_in (k : Int) (by omega)]
        refine take_at (i := 10) (v := ?v159) rfl (by kernel_rfl) (by kernel_rfl) (by kernel_rfl) (fun _ _ _ h => h) (Or.inl ⟨by rfl, ?y159⟩) hHeld ?t159
        case y159 => (intro wx hSw; have hi0 : (k : Int) < 7 := (by omega); go_simp <;> with_reducible rfl)
        simp only [Act.put, List.setIfInBounds_toArray, List.set_cons_zero, List.set_cons_succ]
        refine take_at (i := 11) (v := ?v160) rfl (by kernel_rfl) (by kernel_rfl) (by kernel_rfl) (fun _ _ _ h => h) (Or.inl ⟨by rfl, ?y160⟩) hHeld ?t160
        case y160 => (intro wx hSw; have hi0 : (k : Int) < 7 := (by omega); go_simp <;> with_reducible rfl)
        simp only [Act.put, List.setIfInBounds_toArray, List.set_cons_zero, List.set_cons_succ]
        refine take_at (i := 12) (v := ?v161) rfl (by kernel_rfl) (by kernel_rfl) (by kernel_rfl) (fun _ _ _ h => h) (Or.inl ⟨by rfl, ?y161⟩) hHeld ?t161
        case y161 => (intro wx hSw; have hc0 : wx.cell? ⟨w2.heap.size, k * 7 + k, none⟩ = some (.int .i64 ((triN Q k M) (k * 7 + k))) := near_c hSw (k * 7 + k) (by omega) (by omega); go_simp <;> with_reducible rfl)
        simp only [Act.put, List.setIfInBounds_toArray, List.set_cons_zero, List.set_cons_succ]
        refine take_at (i := 15) (v := ?v162) rfl (by kernel_rfl) (by kernel_rfl) (by kernel_rfl) (fun _ _ _ h => h) (Or.inl ⟨by rfl, ?y162⟩) hHeld ?t162
        case y162 => (intro wx hSw; have hi0 : (M : Int) < 7 := (by omega); go_simp <;> with_reducible rfl)
        simp only [Act.put, List.setIfInBounds_toArray, List.set_cons_zero, List.set_cons_succ]
        refine call_at (i := 13) (by kernel_rfl) rfl (fun K hK => ?_)
        go_simp
        refine (rMul_any b false s ((triN Q k M) (k * 7 + k)) _ (f2011.new w1.heap.size (M * 7 + M) (Nat.ne_of_lt y5_BF) (.int .i64 (D M M))).drew).mono ?_
        rintro e w2012 ⟨rfl, f2012, k2012⟩
        rw [J.h7] at f2012 ⊢
        dsimp only at f2012 ⊢
        have K2012 : Kept b w w2012 := Kept.trans (K2011.new _ _ (by omega) _).drew k2012
        have B0_2012 : Arr w.heap.size (row 49 (fun _ => 0)) w2012 := (B0_2011.new w1.heap.size (M * 7 + M) (Nat.ne_of_lt y5_B0) (.int .i64 (D M M))).drew.kept k2012 (Nat.ne_of_gt y1_BF)
        have B1_2012 : Arr (w.heap.size + 1) (row 49 (fun _ => 0)) w2012 := (B1_2011.new w1.heap.size (M * 7 + M) (Nat.ne_of_lt y5_B1) (.int .i64 (D M M))).drew.kept k2012 (Nat.ne_of_gt y2_BF)
        have B2_2012 : Arr (w.heap.size + 1 + 1) (row 49 (fun _ => 0)) w2012 := (B2_2011.new w1.heap.size (M * 7 + M) (Nat.ne_of_lt y5_B2) (.int .i64 (D M M))).drew.kept k2012 (Nat.ne_of_gt y3_BF)
        have B3_2012 : Arr (w.heap.size + 1 + 1 + 1) (row 49 (updF (triN P k M) (M * 7 + M) (P M M))) w2012 := (B3_2011.new w1.heap.size (M * 7 + M) (Nat.ne_of_lt y5_B3) (.int .i64 (D M M))).drew.kept k2012 (Nat.ne_of_gt y4_BF)
        have B4_2012 : Arr w1.heap.size (row 49 (updF (triN D k M) (M * 7 + M) (D M M))) w2012 := (row_put B4_2011 (M * 7 + M) (by omega) (D M M)).drew.kept k2012 (Nat.ne_of_gt y5_BF)
        have B5_2012 : Arr w2.heap.size (row 49 (triN Q k M)) w2012 := (B5_2011.new w1.heap.size (M * 7 + M) (Nat.ne_of_gt y6_B4) (.int .i64 (D M M))).drew.kept k2012 (Nat.ne_of_gt y6_BF)
        have z2012 := B5_2012.lies
        clear hHeld
        refine hK.out _ _ (NearR.same B5_2012) (fun hHeld => ?_)
        clear hK K K2011 f2011 B0_2011 B1_2011 B2_2011 B3_2011 B4_2011 B5_2011 k2012
        refine call_at (i := 14) (by kernel_rfl) rfl (fun K hK => ?_)
        go_simp
        refine (rMul_any b false J.j J.v7 _ f2012).mono ?_
        rintro e w2013 ⟨rfl, f2013, k2013⟩
        rw [J.h8] at f2013 ⊢
        dsimp only at f2013 ⊢
        have K2013 : Kept b w w2013 := Kept.trans K2012 k2013
        have B0_2013 : Arr w.heap.size (row 49 (fun _ => 0)) w2013 := B0_2012.kept k2013 (Nat.ne_of_gt y1_BF)
        have B1_2013 : Arr (w.heap.size + 1) (row 49 (fun _ => 0)) w2013 := B1_2012.kept k2013 (Nat.ne_of_gt y2_BF)
        have B2_2013 : Arr (w.heap.size + 1 + 1) (row 49 (fun _ => 0)) w2013 := B2_2012.kept k2013 (Nat.ne_of_gt y3_BF)
        have B3_2013 : Arr (w.heap.size + 1 + 1 + 1) (row 49 (updF (triN P k M) (M * 7 + M) (P M M))) w2013 := B3_2012.kept k2013 (Nat.ne_of_gt y4_BF)
        have B4_2013 : Arr w1.heap.size (row 49 (updF (triN D k M) (M * 7 + M) (D M M))) w2013 := B4_2012.kept k2013 (Nat.ne_of_gt y5_BF)
        have B5_2013 : Arr w2.heap.size (row 49 (triN Q k M)) w2013 := B5_2012.kept k2013 (Nat.ne_of_gt y6_BF)
        have z2013 := B5_2013.lies
        clear hHeld
        refine hK.out _ _ (NearR.same B5_2013) (fun hHeld => ?_)
        clear hK K K2012 f2012 B0_2012 B1_2012 B2_2012 B3_2012 B4_2012 B5_2012 k2013
        refine take_at (i := 16) (v := ?v163) rfl (by kernel_rfl) (by kernel_rfl) (by kernel_rfl) (fun _ _ _ h => h) (Or.inl ⟨by rfl, ?y163⟩) hHeld ?t163
        case y163 => (intro wx hSw; have hi0 : (M : Int) < 7 := (by omega); go_simp <;> with_reducible rfl)
        simp only [Act.put, List.setIfInBounds_toArray, List.set_cons_zero, List.set_cons_succ]
        refine call_at (i := 17) (by kernel_rfl) rfl (fun K hK => ?_)
        have c26_B5_0 : w2013.cell? ⟨w2.heap.size, M * 7 + M, none⟩ = some (.int .i64 ((triN Q k M) (M * 7 + M))) := row_c B5_2013 (M * 7 + M) (by omega)
        have g26_B5_1 := row_f B5_2013 (M * 7 + M) (by omega)
        go_simp
        clear hHeld
        refine hK.out _ _ (NearR.upd (row_put B5_2013 (M * 7 + M) (by omega) (Q M M))) (fun hHeld => ?_)
        clear hK K c26_B5_0 g26_B5_1
        refine wpAnyH_done (by kernel_rfl) ?_ _
        clear hHeld
        go_wp2_with fail
        have Q_BF := (f2013.new w2.heap.size (M * 7 + M) (Nat.ne_of_lt y6_BF) (.int .i64 (Q M M)))
        have Q_B0 := (B0_2013.new w2.heap.size (M * 7 + M) (Nat.ne_of_lt y6_B0) (.int .i64 (Q M M)))
        have Q_B1 := (B1_2013.new w2.heap.size (M * 7 + M) (Nat.ne_of_lt y6_B1) (.int .i64 (Q M M)))
        have Q_B2 := (B2_2013.new w2.heap.size (M * 7 + M) (Nat.ne_of_lt y6_B2) (.int .i64 (Q M M)))
        have Q_B3 := (B3_2013.new w2.heap.size (M * 7 + M) (Nat.ne_of_lt y6_B3) (.int .i64 (Q M M)))
        have Q_B4 := (B4_2013.new w2.heap.size (M * 7 + M) (Nat.ne_of_lt y6_B4) (.int .i64 (Q M M)))
        have Q_B5 := (row_put B5_2013 (M * 7 + M) (by omega) (Q M M))
        have Q_base := (K2013.new w2.heap.size (M * 7 + M) (by omega) (.int .i64 (Q M M)))
        obtain rfl := HM.out
        rw [hJ0.out]
        intro G_ hG_
        exact hG_ _ _ _ _ _ _ _ _ _ _ _ _ _ _ _ _ _ _ _ _ _ _ _ _ _ _ _ _ _ _ _ _ _ _ _ _ _ _ _ _ _ _ _ _ _ _ _ _ _ _ _ _ _ _ _ _ _ _ _ _ _ _ _ _ _ _ _ _ _ _ _ _ _ _ _ _ _ _ _ _ _ _ _ _ _ _ _ _ _ _ _ _ _ _ _ _ _ _ _ _ _ _ _ _ _ _ _ _ _ _ _ _ _ _ _ _ _ _ _ _ _ _ _ _ _ _ _ _ _ _ _ _ _ _ _ _ _ _ _ _ _ _ _ _ _ _ _ _ _ _ _ _ _ _ _ _ _ _ _ _ _ _ _ _ _ _ _ _ _ _ _ _ _ _ _ _ _ _ _ _ _ _ _ _ _ _ _ _ _ _ _ _ _ _ _ _ _ _ _ _ _ _ _ _ _ _ _ _ _ _ _ _ _ _ _ _ _ _ _ _ _ _ _ _ _ _ _ _ _ rfl Q_base Q_BF Q_B0 Q_B1 Q_B2 ((Q_B3).fn (triN_diag P hk)) ((Q_B4).fn (triN_diag D hk)) ((Q_B5).fn (triN_diag Q hk))
  · intro a Wl0 hI R
    rw [hJ0.out] at hI
    refine hI _ ?_
    clear hI hJ0
    intro t0_3 t0_4 t0_5 t0_13 t0_14 t0_15 t0_16 t0_17 t0_18 t0_19 t0_20 t0_21 t0_22 t0_23 t0_24 t0_25 t0_26 t0_27 t0_28 t0_29 t0_30 t0_31 t0_32 t0_33 t0_34 t0_35 t0_36 t0_37 t0_38 t0_39 t0_40 t0_41 t0_42 t0_43 t0_44 t0_45 t0_46 t0_47 t0_48 t0_49 t0_50 t0_51 t0_52 t0_53 t0_54 t0_55 t0_56 t0_57 t0_58 t0_59 t0_60 t0_61 t0_62 t0_63 t0_64 t0_65 t0_66 t0_67 t0_68 t0_69 t0_70 t0_71 t0_72 t0_73 t0_74 t0_75 t0_76 t0_77 t0_78 t0_79 t0_80 t0_81 t0_82 t0_83 t0_84 t0_85 t0_86 t0_87 t0_88 t0_89 t0_90 t0_91 t0_92 t0_93 t0_94 t0_95 t0_96 t0_97 t0_98 t0_99 t0_100 t0_101 t0_102 t0_103 t0_104 t0_105 t0_106 t0_107 t0_108 t0_109 t0_110 t0_111 t0_112 t0_113 t0_114 t0_115 t0_116 t0_117 t0_118 t0_119 t0_120 t0_121 t0_122 t0_123 t0_124 t0_125 t0_126 t0_127 t0_128 t0_129 t0_130 t0_131 t0_132 t0_133 t0_134 t0_135 t0_136 t0_137 t0_138 t0_139 t0_140 t0_141 t0_142 t0_143 t0_144 t0_145 t0_146 t0_147 t0_148 t0_149 t0_150 t0_151 t0_152 t0_153 t0_154 t0_155 t0_156 t0_157 t0_158 t0_159 t0_160 t0_161 t0_162 t0_163 t0_164 t0_165 t0_166 t0_167 t0_168 t0_169 t0_170 t0_171 t0_172 t0_173 t0_174 t0_175 t0_176 t0_177 t0_178 t0_179 t0_180 t0_181 t0_182 t0_183 t0_184 t0_185 t0_186 t0_187 t0_188 t0_189 t0_190 t0_191 t0_192 t0_193 t0_194 t0_195 t0_196 t0_197 t0_198 t0_199 t0_200 t0_201 t0_202 t0_203 t0_204 t0_205 t0_206 t0_207 t0_208 t0_209 t0_210 t0_211 t0_212 t0_213 t0_214 t0_215 t0_216 t0_217 t0_218 t0_219 t0_220 t0_221 t0_222 t0_223 t0_224 t0_225 t0_226 t0_227 t0_228 t0_229 t0_230 t0_231 t0_232 t0_233 t0_234 t0_235 t0_236 t0_237 t0_238 ea Kl0 BF_l0 B0_l0 B1_l0 B2_l0 B3_l0 B4_l0 B5_l0
    subst ea
    have zl0_BF := BF_l0.lies
    have zl0_B0 := B0_l0.lies
    have zl0_B1 := B1_l0.lies
    have zl0_B2 := B2_l0.lies
    have zl0_B3 := B3_l0.lies
    have zl0_B4 := B4_l0.lies
    have zl0_B5 := B5_l0.lies
    go_wp2_with fail
    refine wp_region_held_drew (S := fun w' => Arr (w.heap.size + 1 + 1 + 1) (row 49 (triN P 6 0)) w' ∧ Arr w1.heap.size (row 49 (triN D 6 0)) w' ∧ Arr w2.heap.size (row 49 (triN Q 6 0)) w') (by kernel_rfl) ⟨B3_l0.drew, B4_l0.drew, B5_l0.drew⟩ (fun hHeld => ?_)
    refine take_at (i := 0) rfl (by kernel_rfl) (by kernel_rfl) (by kernel_rfl) (fun _ _ _ h => h) (row_yield (by rfl) rfl rfl (fun _ hSw => hSw.1) (by kernel_rfl) (by rw [row_len]; kernel_rfl)) hHeld ?_
    simp only [Act.put, List.setIfInBounds_toArray, List.set_cons_zero, List.set_cons_succ]
    refine take_at (i := 1) rfl (by kernel_rfl) (by kernel_rfl) (by kernel_rfl) (fun _ _ _ h => h) (row_yield (by rfl) rfl rfl (fun _ hSw => hSw.2.1) (by kernel_rfl) (by rw [row_len]; kernel_rfl)) hHeld ?_
    simp only [Act.put, List.setIfInBounds_toArray, List.set_cons_zero, List.set_cons_succ]
    refine take_at (i := 2) rfl (by kernel_rfl) (by kernel_rfl) (by kernel_rfl) (fun _ _ _ h => h) (row_yield (by rfl) rfl rfl (fun _ hSw => hSw.2.2) (by kernel_rfl) (by rw [row_len]; kernel_rfl)) hHeld ?_
    simp only [Act.put, List.setIfInBounds_toArray, List.set_cons_zero, List.set_cons_succ]
    refine call_at (i := 3) (by kernel_rfl) rfl (fun K hK => ?_)
    refine row_store_at (l' := row 49 (triN P 6 0)) (by rfl) rfl rfl rfl B0_l0.drew (by simp only [row_len]) (by rw [row_len]; kernel_rfl) (row_one _ _) ?_
    intro w1004 B0_1004 o1004
    have K1004 : Kept b w w1004 := Kept.off Kl0.drew o1004 (by omega)
    have BF_1004 : Fl b false w1004 := BF_l0.drew.off o1004 (Nat.ne_of_lt y1_BF)
    have B1_1004 : Arr (w.heap.size + 1) (row 49 (fun _ => 0)) w1004 := B1_l0.drew.off o1004 (Nat.ne_of_gt y2_B0)
    have B2_1004 : Arr (w.heap.size + 1 + 1) (row 49 (fun _ => 0)) w1004 := B2_l0.drew.off o1004 (Nat.ne_of_gt y3_B0)
    have B3_1004 : Arr (w.heap.size + 1 + 1 + 1) (row 49 (triN P 6 0)) w1004 := B3_l0.drew.off o1004 (Nat.ne_of_gt y4_B0)
    have B4_1004 : Arr w1.heap.size (row 49 (triN D 6 0)) w1004 := B4_l0.drew.off o1004 (Nat.ne_of_gt y5_B0)
    have B5_1004 : Arr w2.heap.size (row 49 (triN Q 6 0)) w1004 := B5_l0.drew.off o1004 (Nat.ne_of_gt y6_B0)
    have z1004_B0 := B0_1004.lies
    have z1004_BF := BF_1004.lies
    have z1004_B1 := B1_1004.lies
    have z1004_B2 := B2_1004.lies
    have z1004_B3 := B3_1004.lies
    have z1004_B4 := B4_1004.lies
    have z1004_B5 := B5_1004.lies
    simp only [Act.put]
    clear hHeld
    refine hK.out _ _ ⟨B3_1004, B4_1004, B5_1004⟩ (fun hHeld => ?_)
    clear hK K B0_l0 BF_l0 B1_l0 B2_l0 B3_l0 B4_l0 B5_l0 o1004
    refine call_at (i := 4) (by kernel_rfl) rfl (fun K hK => ?_)
    refine row_store_at (l' := row 49 (triN D 6 0)) (by rfl) rfl rfl rfl B1_1004 (by simp only [row_len]) (by rw [row_len]; kernel_rfl) (row_one _ _) ?_
    intro w1005 B1_1005 o1005
    have K1005 : Kept b w w1005 := Kept.off K1004 o1005 (by omega)
    have BF_1005 : Fl b false w1005 := BF_1004.off o1005 (Nat.ne_of_lt y2_BF)
    have B0_1005 : Arr w.heap.size (row 49 (triN P 6 0)) w1005 := B0_1004.off o1005 (Nat.ne_of_lt y2_B0)
    have B2_1005 : Arr (w.heap.size + 1 + 1) (row 49 (fun _ => 0)) w1005 := B2_1004.off o1005 (Nat.ne_of_gt y3_B1)
    have B3_1005 : Arr (w.heap.size + 1 + 1 + 1) (row 49 (triN P 6 0)) w1005 := B3_1004.off o1005 (Nat.ne_of_gt y4_B1)
    have B4_1005 : Arr w1.heap.size (row 49 (triN D 6 0)) w1005 := B4_1004.off o1005 (Nat.ne_of_gt y5_B1)
    have B5_1005 : Arr w2.heap.size (row 49 (triN Q 6 0)) w1005 := B5_1004.off o1005 (Nat.ne_of_gt y6_B1)
    have z1005_B1 := B1_1005.lies
    have z1005_BF := BF_1005.lies
    have z1005_B0 := B0_1005.lies
    have z1005_B2 := B2_1005.lies
    have z1005_B3 := B3_1005.lies
    have z1005_B4 := B4_1005.lies
    have z1005_B5 := B5_1005.lies
    simp only [Act.put]
    clear hHeld
    refine hK.out _ _ ⟨B3_1005, B4_1005, B5_1005⟩ (fun hHeld => ?_)
    clear hK K K1004 B1_1004 BF_1004 B0_1004 B2_1004 B3_1004 B4_1004 B5_1004 o1005
    refine call_at (i := 5) (by kernel_rfl) rfl (fun K hK => ?_)
    refine row_store_at (l' := row 49 (triN Q 6 0)) (by rfl) rfl rfl rfl B2_1005 (by simp only [row_len]) (by rw [row_len]; kernel_rfl) (row_one _ _) ?_
    intro w1006 B2_1006 o1006
    have K1006 : Kept b w w1006 := Kept.off K1005 o1006 (by omega)
    have BF_1006 : Fl b false w1006 := BF_1005.off o1006 (Nat.ne_of_lt y3_BF)
    have B0_1006 : Arr w.heap.size (row 49 (triN P 6 0)) w1006 := B0_1005.off o1006 (Nat.ne_of_lt y3_B0)
    have B1_1006 : Arr (w.heap.size + 1) (row 49 (triN D 6 0)) w1006 := B1_1005.off o1006 (Nat.ne_of_lt y3_B1)
    have B3_1006 : Arr (w.heap.size + 1 + 1 + 1) (row 49 (triN P 6 0)) w1006 := B3_1005.off o1006 (Nat.ne_of_gt y4_B2)
    have B4_1006 : Arr w1.heap.size (row 49 (triN D 6 0)) w1006 := B4_1005.off o1006 (Nat.ne_of_gt y5_B2)
    have B5_1006 : Arr w2.heap.size (row 49 (triN Q 6 0)) w1006 := B5_1005.off o1006 (Nat.ne_of_gt y6_B2)
    have z1006_B2 := B2_1006.lies
    have z1006_BF := BF_1006.lies
    have z1006_B0 := B0_1006.lies
    have z1006_B1 := B1_1006.lies
    have z1006_B3 := B3_1006.lies
    have z1006_B4 := B4_1006.lies
    have z1006_B5 := B5_1006.lies
    simp only [Act.put]
    clear hHeld
    refine hK.out _ _ ⟨B3_1006, B4_1006, B5_1006⟩ (fun hHeld => ?_)
    clear hK K K1005 B2_1005 BF_1005 B0_1005 B1_1005 B3_1005 B4_1005 B5_1005 o1006
    refine wpAnyH_done (by kernel_rfl) ?_ _
    clear hHeld
    go_wp2_with (with_reducible refine post_stop ?_)
    refine Stop.mk ?_
    refine bodyPost_ret (v := .tuple #[.agg (row 49 (triN P 6 0)).toArray, .agg (row 49 (triN D 6 0)).toArray, .agg (row 49 (triN Q 6 0)).toArray]) (results_arr3 Tryd.results39 B0_1006 B1_1006 B2_1006 rfl rfl rfl (by kernel_rfl) (by rw [row_len]; kernel_rfl) (by rw [row_len]; kernel_rfl) (by rw [row_len]; kernel_rfl)) rfl ?_
    exact ⟨rfl, BF_1006, K1006⟩
end Go.Proofs.YtmhcfkcpoecokaaDoor
