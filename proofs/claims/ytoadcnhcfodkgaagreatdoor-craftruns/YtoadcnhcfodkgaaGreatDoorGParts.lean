/-
  The walk of parts, for the seat YtoadcnhcfodkgaaGreatDoor. (Made by mkfield.py.)
-/
import Derived.Test.YtoadcnhcfodkgaaGreatDoorGNumA
import Derived.Test.YtoadcnhcfodkgaaGreatDoorMapQ
import Derived.Handy
import Derived.Deep.RegionHeld3
namespace Go.Proofs.YtoadcnhcfodkgaaGreatDoor
open Go.RowKit

theorem spot_cos {k kp kd kq : Nat} {nr : Int} {ro : Nat → Int} {w : World} (A : Arr k [.int .i64 nr, .int .i64 (ro 0), .int .i64 (ro 1), .int .i64 (ro 2), .int .i64 (ro 3), .int .i64 (ro 4), .int .i64 (ro 5), .int .i64 (ro 6), .int .i64 (ro 7), .int .i64 (ro 8), .int .i64 (ro 9), .int .i64 (ro 10), .int .i64 (ro 11), .int .i64 (ro 12), .int .i64 (ro 13), .map (some kp), .map (some kd), .map (some kq)] w) (m : Nat) (h : m < 7) : w.cell? ⟨k, 1 + m, none⟩ = some (.int .i64 (ro m)) := by
  match m, h with
  | 0, _ => exact A.c 1 (by decide : 1 < 18)
  | 1, _ => exact A.c 2 (by decide : 2 < 18)
  | 2, _ => exact A.c 3 (by decide : 3 < 18)
  | 3, _ => exact A.c 4 (by decide : 4 < 18)
  | 4, _ => exact A.c 5 (by decide : 5 < 18)
  | 5, _ => exact A.c 6 (by decide : 6 < 18)
  | 6, _ => exact A.c 7 (by decide : 7 < 18)
theorem spot_sin {k kp kd kq : Nat} {nr : Int} {ro : Nat → Int} {w : World} (A : Arr k [.int .i64 nr, .int .i64 (ro 0), .int .i64 (ro 1), .int .i64 (ro 2), .int .i64 (ro 3), .int .i64 (ro 4), .int .i64 (ro 5), .int .i64 (ro 6), .int .i64 (ro 7), .int .i64 (ro 8), .int .i64 (ro 9), .int .i64 (ro 10), .int .i64 (ro 11), .int .i64 (ro 12), .int .i64 (ro 13), .map (some kp), .map (some kd), .map (some kq)] w) (m : Nat) (h : m < 7) : w.cell? ⟨k, 8 + m, none⟩ = some (.int .i64 (ro (7 + m))) := by
  match m, h with
  | 0, _ => exact A.c 8 (by decide : 8 < 18)
  | 1, _ => exact A.c 9 (by decide : 9 < 18)
  | 2, _ => exact A.c 10 (by decide : 10 < 18)
  | 3, _ => exact A.c 11 (by decide : 11 < 18)
  | 4, _ => exact A.c 12 (by decide : 12 < 18)
  | 5, _ => exact A.c 13 (by decide : 13 < 18)
  | 6, _ => exact A.c 14 (by decide : 14 < 18)
set_option maxRecDepth 100000 in
set_option maxHeartbeats 4000000 in
theorem parts_any (b kp kd kq cp cd cq : Nat) (fp fd fq : Int → Int → Int) (ro tt : Nat → Int) (G H : Nat → Nat → Int) (st : Nat → Nat → V3) (nr t : Int) (w : World) (hw : Fl b false w) (hp : Mp kp cp fp w) (hd : Mp kd cd fd w) (hq : Mp kq cq fq w) (hG0 : Arr 0 (row 54 at0) w) (hG1 : Arr 1 (row 10 yr0) w) (hb : 1 < b) (d1 : b ≠ kp) (d2 : b ≠ kd) (d3 : b ≠ kq)
    (ht0 : mulS false nr nr = (tt 0, false)) (htt : ∀ k, k < 6 → mulS false (tt k) nr = (tt (k + 1), false)) (hN : ∀ k m : Nat, k < 6 → m < k + 2 → numS false ((k : Int) + 1) (m : Int) t = ((G k m, H k m), false)) (hs0 : st 0 0 = (0, 0, 0)) (hs : ∀ k, k < 6 → st k (k + 2) = st (k + 1) 0)
    (T_ : ∀ k m : Nat, k < 6 → m < k + 2 → TermT ((k : Int) + 1) (m : Int) (tt (k + 1)) (ro m) (ro (7 + m)) (G k m) (H k m) (fp ((k : Int) + 1) (m : Int)) (fd ((k : Int) + 1) (m : Int)) (fq ((k : Int) + 1) (m : Int)) (st k m).1 (st k m).2.1 (st k m).2.2 (st k (m + 1)).1 (st k (m + 1)).2.1 (st k (m + 1)).2.2) :
    Calls Tryz.prog 221 #[.pointer (some ⟨b, 0, none⟩), .agg #[.int .i64 nr, .int .i64 (ro 0), .int .i64 (ro 1), .int .i64 (ro 2), .int .i64 (ro 3), .int .i64 (ro 4), .int .i64 (ro 5), .int .i64 (ro 6), .int .i64 (ro 7), .int .i64 (ro 8), .int .i64 (ro 9), .int .i64 (ro 10), .int .i64 (ro 11), .int .i64 (ro 12), .int .i64 (ro 13), .map (some kp), .map (some kd), .map (some kq)], .int .i64 t] w fun e w' => e = .returned (.tuple #[.int .i64 (st 6 0).1, .int .i64 (st 6 0).2.1, .int .i64 (st 6 0).2.2]) ∧ Fl b false w' ∧ Kept b w w' := by
  have hl := hw.lies
  have l_0 := hG0.lies
  have l_1 := hG1.lies
  have l_p := hp.lies
  have l_d := hd.lies
  have l_q := hq.lies
  go_enter Tryz.func221, Tryz.ntmps221
  have y1_BF : b < w.heap.size := hw.lies
  have y1_MP : kp < w.heap.size := hp.lies
  have y1_MD : kd < w.heap.size := hd.lies
  have y1_MQ : kq < w.heap.size := hq.lies
  have y1_G0 : 0 < w.heap.size := hG0.lies
  have y1_G1 : 1 < w.heap.size := hG1.lies
  go_wp2_with fail
  refine (Mul_any b false nr nr _ (hw.alloc _)).mono ?_
  rintro e w1 ⟨rfl, f1, k1⟩
  rw [ht0] at f1 ⊢
  dsimp only at f1 ⊢
  have K1 : Kept b w w1 := Kept.trans ((Kept.refl b w).al _) k1
  have MP_1 : Mp kp cp fp w1 := (hp.alloc _).kept k1 (by omega)
  have MD_1 : Mp kd cd fd w1 := (hd.alloc _).kept k1 (by omega)
  have MQ_1 : Mp kq cq fq w1 := (hq.alloc _).kept k1 (by omega)
  have G0_1 : Arr 0 (row 54 at0) w1 := (hG0.alloc _).kept k1 (by omega)
  have G1_1 : Arr 1 (row 10 yr0) w1 := (hG1.alloc _).kept k1 (by omega)
  have B0_1 : Arr w.heap.size [.int .i64 nr, .int .i64 (ro 0), .int .i64 (ro 1), .int .i64 (ro 2), .int .i64 (ro 3), .int .i64 (ro 4), .int .i64 (ro 5), .int .i64 (ro 6), .int .i64 (ro 7), .int .i64 (ro 8), .int .i64 (ro 9), .int .i64 (ro 10), .int .i64 (ro 11), .int .i64 (ro 12), .int .i64 (ro 13), .map (some kp), .map (some kd), .map (some kq)] w1 := (Arr_at _ _ [.int .i64 nr, .int .i64 (ro 0), .int .i64 (ro 1), .int .i64 (ro 2), .int .i64 (ro 3), .int .i64 (ro 4), .int .i64 (ro 5), .int .i64 (ro 6), .int .i64 (ro 7), .int .i64 (ro 8), .int .i64 (ro 9), .int .i64 (ro 10), .int .i64 (ro 11), .int .i64 (ro 12), .int .i64 (ro 13), .map (some kp), .map (some kd), .map (some kq)] _ (by simp)).kept k1 (Nat.ne_of_gt y1_BF)
  have z1 := B0_1.lies
  clear hp hd hq hG0 hG1 k1
  go_wp2_with fail
  obtain ⟨J0, hJ0⟩ : ∃ J : Nat → Act → World → Prop, Hid (J = fun k a Wl0 => ∀ G_ : Prop, (∀ (t0_1 t0_3 t0_5 t0_11 t0_12 t0_13 t0_14 t0_15 t0_16 t0_17 t0_18 t0_19 t0_20 t0_21 t0_22 t0_23 t0_24 t0_25 t0_26 t0_27 t0_28 t0_29 t0_30 t0_31 t0_32 t0_33 t0_34 t0_35 t0_36 t0_37 t0_38 t0_39 t0_40 t0_41 t0_42 t0_43 t0_44 t0_45 t0_46 t0_47 t0_48 t0_49 t0_50 t0_51 t0_52 t0_53 t0_54 t0_55 t0_56 t0_57 t0_58 t0_59 t0_60 t0_61 t0_62 t0_63 t0_64 t0_65 t0_66 t0_67 t0_68 t0_69 t0_70 t0_71 t0_72 t0_73 t0_74 t0_75 t0_76 t0_77 t0_78 t0_79 t0_80 t0_81 t0_82 t0_83 t0_84 t0_85 t0_86 t0_87 t0_88 t0_89 t0_90 t0_91 t0_92 t0_93 t0_94 t0_95 t0_96 t0_97 t0_98 t0_99 t0_100 t0_101 t0_102 t0_103 t0_104 t0_105 t0_106 t0_107 t0_108 t0_109 t0_110 t0_111 t0_112 t0_113 t0_114 t0_115 t0_116 t0_117 t0_118 t0_119 t0_120 t0_121 t0_122 t0_123 t0_124 t0_125 t0_126 t0_127 t0_128 t0_129 t0_130 t0_131 : Value), a = { tmps := #[.pointer (some ⟨b, 0, none⟩), t0_1, .int .i64 t, t0_3, .pointer (some ⟨w.heap.size, 0, none⟩), t0_5, .int .i64 ((st k 0).1), .int .i64 ((st k 0).2.1), .int .i64 ((st k 0).2.2), .int .i64 (tt k), .int .i64 ((k : Int) + 1), t0_11, t0_12, t0_13, t0_14, t0_15, t0_16, t0_17, t0_18, t0_19, t0_20, t0_21, t0_22, t0_23, t0_24, t0_25, t0_26, t0_27, t0_28, t0_29, t0_30, t0_31, t0_32, t0_33, t0_34, t0_35, t0_36, t0_37, t0_38, t0_39, t0_40, t0_41, t0_42, t0_43, t0_44, t0_45, t0_46, t0_47, t0_48, t0_49, t0_50, t0_51, t0_52, t0_53, t0_54, t0_55, t0_56, t0_57, t0_58, t0_59, t0_60, t0_61, t0_62, t0_63, t0_64, t0_65, t0_66, t0_67, t0_68, t0_69, t0_70, t0_71, t0_72, t0_73, t0_74, t0_75, t0_76, t0_77, t0_78, t0_79, t0_80, t0_81, t0_82, t0_83, t0_84, t0_85, t0_86, t0_87, t0_88, t0_89, t0_90, t0_91, t0_92, t0_93, t0_94, t0_95, t0_96, t0_97, t0_98, t0_99, t0_100, t0_101, t0_102, t0_103, t0_104, t0_105, t0_106, t0_107, t0_108, t0_109, t0_110, t0_111, t0_112, t0_113, t0_114, t0_115, t0_116, t0_117, t0_118, t0_119, t0_120, t0_121, t0_122, t0_123, t0_124, t0_125, t0_126, t0_127, t0_128, t0_129, t0_130, t0_131], defers := [] } → Kept b w Wl0 → Fl b false Wl0 → Mp kp cp fp Wl0 → Mp kd cd fd Wl0 → Mp kq cq fq Wl0 → Arr 0 (row 54 at0) Wl0 → Arr 1 (row 10 yr0) Wl0 → Arr w.heap.size [.int .i64 nr, .int .i64 (ro 0), .int .i64 (ro 1), .int .i64 (ro 2), .int .i64 (ro 3), .int .i64 (ro 4), .int .i64 (ro 5), .int .i64 (ro 6), .int .i64 (ro 7), .int .i64 (ro 8), .int .i64 (ro 9), .int .i64 (ro 10), .int .i64 (ro 11), .int .i64 (ro 12), .int .i64 (ro 13), .map (some kp), .map (some kd), .map (some kq)] Wl0 → G_) → G_) := ⟨_, rfl⟩
  refine rounds_up J0 6 ?_ ?_ ?_
  · rw [hJ0.out]
    intro G_ hG_
    rw [hs0] at hG_
    exact hG_ _ _ _ _ _ _ _ _ _ _ _ _ _ _ _ _ _ _ _ _ _ _ _ _ _ _ _ _ _ _ _ _ _ _ _ _ _ _ _ _ _ _ _ _ _ _ _ _ _ _ _ _ _ _ _ _ _ _ _ _ _ _ _ _ _ _ _ _ _ _ _ _ _ _ _ _ _ _ _ _ _ _ _ _ _ _ _ _ _ _ _ _ _ _ _ _ _ _ _ _ _ _ _ _ _ _ _ _ _ _ _ _ _ _ _ _ _ _ _ _ _ _ _ _ rfl K1 f1 MP_1 MD_1 MQ_1 G0_1 G1_1 B0_1
  · intro k a Wl0 hk hI R hR
    rw [hJ0.out] at hI
    refine hI _ ?_
    clear hI
    intro t0_1 t0_3 t0_5 t0_11 t0_12 t0_13 t0_14 t0_15 t0_16 t0_17 t0_18 t0_19 t0_20 t0_21 t0_22 t0_23 t0_24 t0_25 t0_26 t0_27 t0_28 t0_29 t0_30 t0_31 t0_32 t0_33 t0_34 t0_35 t0_36 t0_37 t0_38 t0_39 t0_40 t0_41 t0_42 t0_43 t0_44 t0_45 t0_46 t0_47 t0_48 t0_49 t0_50 t0_51 t0_52 t0_53 t0_54 t0_55 t0_56 t0_57 t0_58 t0_59 t0_60 t0_61 t0_62 t0_63 t0_64 t0_65 t0_66 t0_67 t0_68 t0_69 t0_70 t0_71 t0_72 t0_73 t0_74 t0_75 t0_76 t0_77 t0_78 t0_79 t0_80 t0_81 t0_82 t0_83 t0_84 t0_85 t0_86 t0_87 t0_88 t0_89 t0_90 t0_91 t0_92 t0_93 t0_94 t0_95 t0_96 t0_97 t0_98 t0_99 t0_100 t0_101 t0_102 t0_103 t0_104 t0_105 t0_106 t0_107 t0_108 t0_109 t0_110 t0_111 t0_112 t0_113 t0_114 t0_115 t0_116 t0_117 t0_118 t0_119 t0_120 t0_121 t0_122 t0_123 t0_124 t0_125 t0_126 t0_127 t0_128 t0_129 t0_130 t0_131 ea Kl0 BF_l0 MP_l0 MD_l0 MQ_l0 G0_l0 G1_l0 B0_l0
    subst ea
    have zl0_BF := BF_l0.lies
    have zl0_MP := MP_l0.lies
    have zl0_MD := MD_l0.lies
    have zl0_MQ := MQ_l0.lies
    have zl0_G0 := G0_l0.lies
    have zl0_G1 := G1_l0.lies
    have zl0_B0 := B0_l0.lies
    have c3_B0_0 : Wl0.cell? ⟨w.heap.size, 0, none⟩ = some (.int .i64 nr) := B0_l0.c 0 (of_decide_eq_true rfl)
    go_wp2_with fail
    refine (Mul_any b false (tt k) nr _ BF_l0).mono ?_
    rintro e w2 ⟨rfl, f2, k2⟩
    rw [(htt k hk)] at f2 ⊢
    dsimp only at f2 ⊢
    have K2 : Kept b w w2 := Kept.trans Kl0 k2
    have MP_2 : Mp kp cp fp w2 := MP_l0.kept k2 (by omega)
    have MD_2 : Mp kd cd fd w2 := MD_l0.kept k2 (by omega)
    have MQ_2 : Mp kq cq fq w2 := MQ_l0.kept k2 (by omega)
    have G0_2 : Arr 0 (row 54 at0) w2 := G0_l0.kept k2 (by omega)
    have G1_2 : Arr 1 (row 10 yr0) w2 := G1_l0.kept k2 (by omega)
    have B0_2 : Arr w.heap.size [.int .i64 nr, .int .i64 (ro 0), .int .i64 (ro 1), .int .i64 (ro 2), .int .i64 (ro 3), .int .i64 (ro 4), .int .i64 (ro 5), .int .i64 (ro 6), .int .i64 (ro 7), .int .i64 (ro 8), .int .i64 (ro 9), .int .i64 (ro 10), .int .i64 (ro 11), .int .i64 (ro 12), .int .i64 (ro 13), .map (some kp), .map (some kd), .map (some kq)] w2 := B0_l0.kept k2 (Nat.ne_of_gt y1_BF)
    have z2 := B0_2.lies
    clear c3_B0_0 BF_l0 MP_l0 MD_l0 MQ_l0 G0_l0 G1_l0 B0_l0 k2
    go_wp2_with fail
    obtain ⟨J1, hJ1⟩ : ∃ J : Nat → Act → World → Prop, Hid (J = fun m a Wl1 => ∀ G_ : Prop, (∀ (t1_1 t1_3 t1_5 t1_12 t1_13 t1_14 t1_15 t1_16 t1_17 t1_18 t1_19 t1_20 t1_21 t1_22 t1_23 t1_24 t1_25 t1_26 t1_27 t1_28 t1_29 t1_30 t1_31 t1_32 t1_33 t1_34 t1_35 t1_36 t1_37 t1_38 t1_39 t1_40 t1_41 t1_42 t1_43 t1_44 t1_45 t1_46 t1_47 t1_48 t1_49 t1_50 t1_51 t1_52 t1_53 t1_54 t1_55 t1_56 t1_57 t1_58 t1_59 t1_60 t1_61 t1_62 t1_63 t1_64 t1_65 t1_66 t1_67 t1_68 t1_69 t1_70 t1_71 t1_72 t1_73 t1_74 t1_75 t1_76 t1_77 t1_78 t1_79 t1_80 t1_81 t1_82 t1_83 t1_84 t1_85 t1_86 t1_87 t1_88 t1_89 t1_90 t1_91 t1_92 t1_93 t1_94 t1_95 t1_96 t1_97 t1_98 t1_99 t1_100 t1_101 t1_102 t1_103 t1_104 t1_105 t1_106 t1_107 t1_108 t1_109 t1_110 t1_111 t1_112 t1_113 t1_114 t1_115 t1_116 t1_117 t1_118 t1_119 t1_120 t1_121 t1_122 t1_123 t1_124 t1_125 t1_126 t1_127 t1_128 t1_129 t1_130 t1_131 : Value), a = { tmps := #[.pointer (some ⟨b, 0, none⟩), t1_1, .int .i64 t, t1_3, .pointer (some ⟨w.heap.size, 0, none⟩), t1_5, .int .i64 ((st k m).1), .int .i64 ((st k m).2.1), .int .i64 ((st k m).2.2), .int .i64 (tt (k + 1)), .int .i64 ((k : Int) + 1), .int .i64 (m : Int), t1_12, t1_13, t1_14, t1_15, t1_16, t1_17, t1_18, t1_19, t1_20, t1_21, t1_22, t1_23, t1_24, t1_25, t1_26, t1_27, t1_28, t1_29, t1_30, t1_31, t1_32, t1_33, t1_34, t1_35, t1_36, t1_37, t1_38, t1_39, t1_40, t1_41, t1_42, t1_43, t1_44, t1_45, t1_46, t1_47, t1_48, t1_49, t1_50, t1_51, t1_52, t1_53, t1_54, t1_55, t1_56, t1_57, t1_58, t1_59, t1_60, t1_61, t1_62, t1_63, t1_64, t1_65, t1_66, t1_67, t1_68, t1_69, t1_70, t1_71, t1_72, t1_73, t1_74, t1_75, t1_76, t1_77, t1_78, t1_79, t1_80, t1_81, t1_82, t1_83, t1_84, t1_85, t1_86, t1_87, t1_88, t1_89, t1_90, t1_91, t1_92, t1_93, t1_94, t1_95, t1_96, t1_97, t1_98, t1_99, t1_100, t1_101, t1_102, t1_103, t1_104, t1_105, t1_106, t1_107, t1_108, t1_109, t1_110, t1_111, t1_112, t1_113, t1_114, t1_115, t1_116, t1_117, t1_118, t1_119, t1_120, t1_121, t1_122, t1_123, t1_124, t1_125, t1_126, t1_127, t1_128, t1_129, t1_130, t1_131], defers := [] } → Kept b w Wl1 → Fl b false Wl1 → Mp kp cp fp Wl1 → Mp kd cd fd Wl1 → Mp kq cq fq Wl1 → Arr 0 (row 54 at0) Wl1 → Arr 1 (row 10 yr0) Wl1 → Arr w.heap.size [.int .i64 nr, .int .i64 (ro 0), .int .i64 (ro 1), .int .i64 (ro 2), .int .i64 (ro 3), .int .i64 (ro 4), .int .i64 (ro 5), .int .i64 (ro 6), .int .i64 (ro 7), .int .i64 (ro 8), .int .i64 (ro 9), .int .i64 (ro 10), .int .i64 (ro 11), .int .i64 (ro 12), .int .i64 (ro 13), .map (some kp), .map (some kd), .map (some kq)] Wl1 → G_) → G_) := ⟨_, rfl⟩
    refine rounds_up J1 (k + 2) ?_ ?_ ?_
    · rw [hJ1.out]
      intro G_ hG_
      exact hG_ _ _ _ _ _ _ _ _ _ _ _ _ _ _ _ _ _ _ _ _ _ _ _ _ _ _ _ _ _ _ _ _ _ _ _ _ _ _ _ _ _ _ _ _ _ _ _ _ _ _ _ _ _ _ _ _ _ _ _ _ _ _ _ _ _ _ _ _ _ _ _ _ _ _ _ _ _ _ _ _ _ _ _ _ _ _ _ _ _ _ _ _ _ _ _ _ _ _ _ _ _ _ _ _ _ _ _ _ _ _ _ _ _ _ _ _ _ _ _ _ _ _ _ rfl K2 f2 MP_2 MD_2 MQ_2 G0_2 G1_2 B0_2
    · intro m a Wl1 hm hI R hR
      rw [hJ1.out] at hI
      refine hI _ ?_
      clear hI
      intro t1_1 t1_3 t1_5 t1_12 t1_13 t1_14 t1_15 t1_16 t1_17 t1_18 t1_19 t1_20 t1_21 t1_22 t1_23 t1_24 t1_25 t1_26 t1_27 t1_28 t1_29 t1_30 t1_31 t1_32 t1_33 t1_34 t1_35 t1_36 t1_37 t1_38 t1_39 t1_40 t1_41 t1_42 t1_43 t1_44 t1_45 t1_46 t1_47 t1_48 t1_49 t1_50 t1_51 t1_52 t1_53 t1_54 t1_55 t1_56 t1_57 t1_58 t1_59 t1_60 t1_61 t1_62 t1_63 t1_64 t1_65 t1_66 t1_67 t1_68 t1_69 t1_70 t1_71 t1_72 t1_73 t1_74 t1_75 t1_76 t1_77 t1_78 t1_79 t1_80 t1_81 t1_82 t1_83 t1_84 t1_85 t1_86 t1_87 t1_88 t1_89 t1_90 t1_91 t1_92 t1_93 t1_94 t1_95 t1_96 t1_97 t1_98 t1_99 t1_100 t1_101 t1_102 t1_103 t1_104 t1_105 t1_106 t1_107 t1_108 t1_109 t1_110 t1_111 t1_112 t1_113 t1_114 t1_115 t1_116 t1_117 t1_118 t1_119 t1_120 t1_121 t1_122 t1_123 t1_124 t1_125 t1_126 t1_127 t1_128 t1_129 t1_130 t1_131 ea Kl1 BF_l1 MP_l1 MD_l1 MQ_l1 G0_l1 G1_l1 B0_l1
      subst ea
      have zl1_BF := BF_l1.lies
      have zl1_MP := MP_l1.lies
      have zl1_MD := MD_l1.lies
      have zl1_MQ := MQ_l1.lies
      have zl1_G0 := G0_l1.lies
      have zl1_G1 := G1_l1.lies
      have zl1_B0 := B0_l1.lies
      have T := T_ k m hk hm
      go_wp2_with fail
      refine (num_any b false ((k : Int) + 1) (m : Int) t _ BF_l1 G0_l1 G1_l1 (by omega) rfl).mono ?_
      rintro e w3 ⟨rfl, f3, k3⟩
      rw [(hN k m hk hm)] at f3 ⊢
      dsimp only at f3 ⊢
      have K3 : Kept b w w3 := Kept.trans Kl1 k3
      have MP_3 : Mp kp cp fp w3 := MP_l1.kept k3 (by omega)
      have MD_3 : Mp kd cd fd w3 := MD_l1.kept k3 (by omega)
      have MQ_3 : Mp kq cq fq w3 := MQ_l1.kept k3 (by omega)
      have G0_3 : Arr 0 (row 54 at0) w3 := G0_l1.kept k3 (by omega)
      have G1_3 : Arr 1 (row 10 yr0) w3 := G1_l1.kept k3 (by omega)
      have B0_3 : Arr w.heap.size [.int .i64 nr, .int .i64 (ro 0), .int .i64 (ro 1), .int .i64 (ro 2), .int .i64 (ro 3), .int .i64 (ro 4), .int .i64 (ro 5), .int .i64 (ro 6), .int .i64 (ro 7), .int .i64 (ro 8), .int .i64 (ro 9), .int .i64 (ro 10), .int .i64 (ro 11), .int .i64 (ro 12), .int .i64 (ro 13), .map (some kp), .map (some kd), .map (some kq)] w3 := B0_l1.kept k3 (Nat.ne_of_gt y1_BF)
      have z3 := B0_3.lies
      clear BF_l1 MP_l1 MD_l1 MQ_l1 G0_l1 G1_l1 B0_l1 k3
      go_wp2_with fail
      refine wp_region_held_drew (S := fun w' => Arr w.heap.size [.int .i64 nr, .int .i64 (ro 0), .int .i64 (ro 1), .int .i64 (ro 2), .int .i64 (ro 3), .int .i64 (ro 4), .int .i64 (ro 5), .int .i64 (ro 6), .int .i64 (ro 7), .int .i64 (ro 8), .int .i64 (ro 9), .int .i64 (ro 10), .int .i64 (ro 11), .int .i64 (ro 12), .int .i64 (ro 13), .map (some kp), .map (some kd), .map (some kq)] w') (by kernel_rfl) B0_3.drew (fun hHeld => ?_)
      refine take_at (i := 0) (v := ?v1) rfl (by kernel_rfl) (by kernel_rfl) (by kernel_rfl) (fun _ _ _ h => h) (Or.inl ⟨by rfl, ?y1⟩) hHeld ?t1
      case y1 => (intro wx hSw; go_simp <;> with_reducible rfl)
      simp only [Act.put, List.setIfInBounds_toArray, List.set_cons_zero, List.set_cons_succ]
      refine take_at (i := 1) (v := ?v2) rfl (by kernel_rfl) (by kernel_rfl) (by kernel_rfl) (fun _ _ _ h => h) (Or.inl ⟨by rfl, ?y2⟩) hHeld ?t2
      case y2 => (intro wx hSw; go_simp <;> with_reducible rfl)
      simp only [Act.put, List.setIfInBounds_toArray, List.set_cons_zero, List.set_cons_succ]
      refine take_at (i := 2) (v := ?v3) rfl (by kernel_rfl) (by kernel_rfl) (by kernel_rfl) (fun _ _ _ h => h) (Or.inl ⟨by rfl, ?y3⟩) hHeld ?t3
      case y3 => (intro wx hSw; go_simp <;> with_reducible rfl)
      simp only [Act.put, List.setIfInBounds_toArray, List.set_cons_zero, List.set_cons_succ]
      refine take_at (i := 3) (v := ?v4) rfl (by kernel_rfl) (by kernel_rfl) (by kernel_rfl) (fun _ _ _ h => h) (Or.inl ⟨by rfl, ?y4⟩) hHeld ?t4
      case y4 => (intro wx hSw; have hi0 : (m : Int) < 7 := (by omega); go_simp <;> with_reducible rfl)
      simp only [Act.put, List.setIfInBounds_toArray, List.set_cons_zero, List.set_cons_succ]
      refine take_at (i := 4) (v := ?v5) rfl (by kernel_rfl) (by kernel_rfl) (by kernel_rfl) (fun _ _ _ h => h) (Or.inl ⟨by rfl, ?y5⟩) hHeld ?t5
      case y5 => (intro wx hSw; have hc0 : wx.cell? ⟨w.heap.size, 1 + m, none⟩ = some (.int .i64 (ro m)) := spot_cos hSw m (by omega); go_simp <;> with_reducible rfl)
      simp only [Act.put, List.setIfInBounds_toArray, List.set_cons_zero, List.set_cons_succ]
      refine take_at (i := 5) (v := ?v6) rfl (by kernel_rfl) (by kernel_rfl) (by kernel_rfl) (fun _ _ _ h => h) (Or.inl ⟨by rfl, ?y6⟩) hHeld ?t6
      case y6 => (intro wx hSw; go_simp <;> with_reducible rfl)
      simp only [Act.put, List.setIfInBounds_toArray, List.set_cons_zero, List.set_cons_succ]
      refine take_at (i := 6) (v := ?v7) rfl (by kernel_rfl) (by kernel_rfl) (by kernel_rfl) (fun _ _ _ h => h) (Or.inl ⟨by rfl, ?y7⟩) hHeld ?t7
      case y7 => (intro wx hSw; go_simp <;> with_reducible rfl)
      simp only [Act.put, List.setIfInBounds_toArray, List.set_cons_zero, List.set_cons_succ]
      refine take_at (i := 7) (v := ?v8) rfl (by kernel_rfl) (by kernel_rfl) (by kernel_rfl) (fun _ _ _ h => h) (Or.inl ⟨by rfl, ?y8⟩) hHeld ?t8
      case y8 => (intro wx hSw; go_simp <;> with_reducible rfl)
      simp only [Act.put, List.setIfInBounds_toArray, List.set_cons_zero, List.set_cons_succ]
      refine take_at (i := 8) (v := ?v9) rfl (by kernel_rfl) (by kernel_rfl) (by kernel_rfl) (fun _ _ _ h => h) (Or.inl ⟨by rfl, ?y9⟩) hHeld ?t9
      case y9 => (intro wx hSw; have hi0 : (m : Int) < 7 := (by omega); go_simp <;> with_reducible rfl)
      simp only [Act.put, List.setIfInBounds_toArray, List.set_cons_zero, List.set_cons_succ]
      refine take_at (i := 9) (v := ?v10) rfl (by kernel_rfl) (by kernel_rfl) (by kernel_rfl) (fun _ _ _ h => h) (Or.inl ⟨by rfl, ?y10⟩) hHeld ?t10
      case y10 => (intro wx hSw; have hc0 : wx.cell? ⟨w.heap.size, 8 + m, none⟩ = some (.int .i64 (ro (7 + m))) := spot_sin hSw m (by omega); go_simp <;> with_reducible rfl)
      simp only [Act.put, List.setIfInBounds_toArray, List.set_cons_zero, List.set_cons_succ]
      refine take_at (i := 10) (v := ?v11) rfl (by kernel_rfl) (by kernel_rfl) (by kernel_rfl) (fun _ _ _ h => h) (Or.inl ⟨by rfl, ?y11⟩) hHeld ?t11
      case y11 => (intro wx hSw; go_simp <;> with_reducible rfl)
      simp only [Act.put, List.setIfInBounds_toArray, List.set_cons_zero, List.set_cons_succ]
      refine take_at (i := 11) (v := ?v12) rfl (by kernel_rfl) (by kernel_rfl) (by kernel_rfl) (fun _ _ _ h => h) (Or.inl ⟨by rfl, ?y12⟩) hHeld ?t12
      case y12 => (intro wx hSw; go_simp <;> with_reducible rfl)
      simp only [Act.put, List.setIfInBounds_toArray, List.set_cons_zero, List.set_cons_succ]
      refine wpAnyH_done (by kernel_rfl) ?_ _
      clear hHeld
      go_wp2_with fail
      refine (Mul_any b false (G k m) (ro m) _ f3.drew).mono ?_
      rintro e w4 ⟨rfl, f4, k4⟩
      rw [T.h1] at f4 ⊢
      dsimp only at f4 ⊢
      have K4 : Kept b w w4 := Kept.trans K3.drew k4
      have MP_4 : Mp kp cp fp w4 := MP_3.drew.kept k4 (by omega)
      have MD_4 : Mp kd cd fd w4 := MD_3.drew.kept k4 (by omega)
      have MQ_4 : Mp kq cq fq w4 := MQ_3.drew.kept k4 (by omega)
      have G0_4 : Arr 0 (row 54 at0) w4 := G0_3.drew.kept k4 (by omega)
      have G1_4 : Arr 1 (row 10 yr0) w4 := G1_3.drew.kept k4 (by omega)
      have B0_4 : Arr w.heap.size [.int .i64 nr, .int .i64 (ro 0), .int .i64 (ro 1), .int .i64 (ro 2), .int .i64 (ro 3), .int .i64 (ro 4), .int .i64 (ro 5), .int .i64 (ro 6), .int .i64 (ro 7), .int .i64 (ro 8), .int .i64 (ro 9), .int .i64 (ro 10), .int .i64 (ro 11), .int .i64 (ro 12), .int .i64 (ro 13), .map (some kp), .map (some kd), .map (some kq)] w4 := B0_3.drew.kept k4 (Nat.ne_of_gt y1_BF)
      have z4 := B0_4.lies
      clear K3 f3 MP_3 MD_3 MQ_3 G0_3 G1_3 B0_3 k4
      go_wp2_with fail
      refine (Mul_any b false (H k m) (ro (7 + m)) _ f4).mono ?_
      rintro e w5 ⟨rfl, f5, k5⟩
      rw [T.h2] at f5 ⊢
      dsimp only at f5 ⊢
      have K5 : Kept b w w5 := Kept.trans K4 k5
      have MP_5 : Mp kp cp fp w5 := MP_4.kept k5 (by omega)
      have MD_5 : Mp kd cd fd w5 := MD_4.kept k5 (by omega)
      have MQ_5 : Mp kq cq fq w5 := MQ_4.kept k5 (by omega)
      have G0_5 : Arr 0 (row 54 at0) w5 := G0_4.kept k5 (by omega)
      have G1_5 : Arr 1 (row 10 yr0) w5 := G1_4.kept k5 (by omega)
      have B0_5 : Arr w.heap.size [.int .i64 nr, .int .i64 (ro 0), .int .i64 (ro 1), .int .i64 (ro 2), .int .i64 (ro 3), .int .i64 (ro 4), .int .i64 (ro 5), .int .i64 (ro 6), .int .i64 (ro 7), .int .i64 (ro 8), .int .i64 (ro 9), .int .i64 (ro 10), .int .i64 (ro 11), .int .i64 (ro 12), .int .i64 (ro 13), .map (some kp), .map (some kd), .map (some kq)] w5 := B0_4.kept k5 (Nat.ne_of_gt y1_BF)
      have z5 := B0_5.lies
      clear K4 f4 MP_4 MD_4 MQ_4 G0_4 G1_4 B0_4 k5
      go_wp2_with fail
      refine (Add_any b false T.v1 T.v2 _ f5).mono ?_
      rintro e w6 ⟨rfl, f6, k6⟩
      rw [T.h3] at f6 ⊢
      dsimp only at f6 ⊢
      have K6 : Kept b w w6 := Kept.trans K5 k6
      have MP_6 : Mp kp cp fp w6 := MP_5.kept k6 (by omega)
      have MD_6 : Mp kd cd fd w6 := MD_5.kept k6 (by omega)
      have MQ_6 : Mp kq cq fq w6 := MQ_5.kept k6 (by omega)
      have G0_6 : Arr 0 (row 54 at0) w6 := G0_5.kept k6 (by omega)
      have G1_6 : Arr 1 (row 10 yr0) w6 := G1_5.kept k6 (by omega)
      have B0_6 : Arr w.heap.size [.int .i64 nr, .int .i64 (ro 0), .int .i64 (ro 1), .int .i64 (ro 2), .int .i64 (ro 3), .int .i64 (ro 4), .int .i64 (ro 5), .int .i64 (ro 6), .int .i64 (ro 7), .int .i64 (ro 8), .int .i64 (ro 9), .int .i64 (ro 10), .int .i64 (ro 11), .int .i64 (ro 12), .int .i64 (ro 13), .map (some kp), .map (some kd), .map (some kq)] w6 := B0_5.kept k6 (Nat.ne_of_gt y1_BF)
      have z6 := B0_6.lies
      clear K5 f5 MP_5 MD_5 MQ_5 G0_5 G1_5 B0_5 k6
      go_wp2_with fail
      refine (Mul_any b false (G k m) (ro (7 + m)) _ f6).mono ?_
      rintro e w7 ⟨rfl, f7, k7⟩
      rw [T.h4] at f7 ⊢
      dsimp only at f7 ⊢
      have K7 : Kept b w w7 := Kept.trans K6 k7
      have MP_7 : Mp kp cp fp w7 := MP_6.kept k7 (by omega)
      have MD_7 : Mp kd cd fd w7 := MD_6.kept k7 (by omega)
      have MQ_7 : Mp kq cq fq w7 := MQ_6.kept k7 (by omega)
      have G0_7 : Arr 0 (row 54 at0) w7 := G0_6.kept k7 (by omega)
      have G1_7 : Arr 1 (row 10 yr0) w7 := G1_6.kept k7 (by omega)
      have B0_7 : Arr w.heap.size [.int .i64 nr, .int .i64 (ro 0), .int .i64 (ro 1), .int .i64 (ro 2), .int .i64 (ro 3), .int .i64 (ro 4), .int .i64 (ro 5), .int .i64 (ro 6), .int .i64 (ro 7), .int .i64 (ro 8), .int .i64 (ro 9), .int .i64 (ro 10), .int .i64 (ro 11), .int .i64 (ro 12), .int .i64 (ro 13), .map (some kp), .map (some kd), .map (some kq)] w7 := B0_6.kept k7 (Nat.ne_of_gt y1_BF)
      have z7 := B0_7.lies
      clear K6 f6 MP_6 MD_6 MQ_6 G0_6 G1_6 B0_6 k7
      go_wp2_with fail
      refine (Mul_any b false (H k m) (ro m) _ f7).mono ?_
      rintro e w8 ⟨rfl, f8, k8⟩
      rw [T.h5] at f8 ⊢
      dsimp only at f8 ⊢
      have K8 : Kept b w w8 := Kept.trans K7 k8
      have MP_8 : Mp kp cp fp w8 := MP_7.kept k8 (by omega)
      have MD_8 : Mp kd cd fd w8 := MD_7.kept k8 (by omega)
      have MQ_8 : Mp kq cq fq w8 := MQ_7.kept k8 (by omega)
      have G0_8 : Arr 0 (row 54 at0) w8 := G0_7.kept k8 (by omega)
      have G1_8 : Arr 1 (row 10 yr0) w8 := G1_7.kept k8 (by omega)
      have B0_8 : Arr w.heap.size [.int .i64 nr, .int .i64 (ro 0), .int .i64 (ro 1), .int .i64 (ro 2), .int .i64 (ro 3), .int .i64 (ro 4), .int .i64 (ro 5), .int .i64 (ro 6), .int .i64 (ro 7), .int .i64 (ro 8), .int .i64 (ro 9), .int .i64 (ro 10), .int .i64 (ro 11), .int .i64 (ro 12), .int .i64 (ro 13), .map (some kp), .map (some kd), .map (some kq)] w8 := B0_7.kept k8 (Nat.ne_of_gt y1_BF)
      have z8 := B0_8.lies
      clear K7 f7 MP_7 MD_7 MQ_7 G0_7 G1_7 B0_7 k8
      go_wp2_with fail
      refine (Sub_any b false T.v4 T.v5 _ f8).mono ?_
      rintro e w9 ⟨rfl, f9, k9⟩
      rw [T.h6] at f9 ⊢
      dsimp only at f9 ⊢
      have K9 : Kept b w w9 := Kept.trans K8 k9
      have MP_9 : Mp kp cp fp w9 := MP_8.kept k9 (by omega)
      have MD_9 : Mp kd cd fd w9 := MD_8.kept k9 (by omega)
      have MQ_9 : Mp kq cq fq w9 := MQ_8.kept k9 (by omega)
      have G0_9 : Arr 0 (row 54 at0) w9 := G0_8.kept k9 (by omega)
      have G1_9 : Arr 1 (row 10 yr0) w9 := G1_8.kept k9 (by omega)
      have B0_9 : Arr w.heap.size [.int .i64 nr, .int .i64 (ro 0), .int .i64 (ro 1), .int .i64 (ro 2), .int .i64 (ro 3), .int .i64 (ro 4), .int .i64 (ro 5), .int .i64 (ro 6), .int .i64 (ro 7), .int .i64 (ro 8), .int .i64 (ro 9), .int .i64 (ro 10), .int .i64 (ro 11), .int .i64 (ro 12), .int .i64 (ro 13), .map (some kp), .map (some kd), .map (some kq)] w9 := B0_8.kept k9 (Nat.ne_of_gt y1_BF)
      have z9 := B0_9.lies
      clear K8 f8 MP_8 MD_8 MQ_8 G0_8 G1_8 B0_8 k9
      have y2_BF : b < w9.heap.size := f9.lies
      have y2_MP : kp < w9.heap.size := MP_9.lies
      have y2_MD : kd < w9.heap.size := MD_9.lies
      have y2_MQ : kq < w9.heap.size := MQ_9.lies
      have y2_G0 : 0 < w9.heap.size := G0_9.lies
      have y2_G1 : 1 < w9.heap.size := G1_9.lies
      have y2_B0 : w.heap.size < w9.heap.size := B0_9.lies
      have c13_B0_15 : w9.cell? ⟨w.heap.size, 15, none⟩ = some (.map (some kp)) := B0_9.c 15 (of_decide_eq_true rfl)
      have l13_B0 := B0_9.lies
      go_wp2_with (refine mp_look rfl rfl rfl rfl (MP_9.alloc _) ⟨by omega, by omega⟩ ⟨by omega, by omega⟩ ?_)
      refine (Mul_any b false T.e (fp ((k : Int) + 1) (m : Int)) _ (f9.alloc _)).mono ?_
      rintro e w10 ⟨rfl, f10, k10⟩
      rw [T.i1] at f10 ⊢
      dsimp only at f10 ⊢
      have K10 : Kept b w w10 := Kept.trans (K9.al _) k10
      have MP_10 : Mp kp cp fp w10 := (MP_9.alloc _).kept k10 (by omega)
      have MD_10 : Mp kd cd fd w10 := (MD_9.alloc _).kept k10 (by omega)
      have MQ_10 : Mp kq cq fq w10 := (MQ_9.alloc _).kept k10 (by omega)
      have G0_10 : Arr 0 (row 54 at0) w10 := (G0_9.alloc _).kept k10 (by omega)
      have G1_10 : Arr 1 (row 10 yr0) w10 := (G1_9.alloc _).kept k10 (by omega)
      have B0_10 : Arr w.heap.size [.int .i64 nr, .int .i64 (ro 0), .int .i64 (ro 1), .int .i64 (ro 2), .int .i64 (ro 3), .int .i64 (ro 4), .int .i64 (ro 5), .int .i64 (ro 6), .int .i64 (ro 7), .int .i64 (ro 8), .int .i64 (ro 9), .int .i64 (ro 10), .int .i64 (ro 11), .int .i64 (ro 12), .int .i64 (ro 13), .map (some kp), .map (some kd), .map (some kq)] w10 := (B0_9.alloc _).kept k10 (Nat.ne_of_gt y1_BF)
      have B1_10 : Arr w9.heap.size [.int .i64 ((k : Int) + 1), .int .i64 (m : Int)] w10 := (Arr_at _ _ [.int .i64 ((k : Int) + 1), .int .i64 (m : Int)] _ (by simp)).kept k10 (Nat.ne_of_gt y2_BF)
      have z10 := B1_10.lies
      clear c13_B0_15 l13_B0 K9 f9 MP_9 MD_9 MQ_9 G0_9 G1_9 B0_9 k10
      go_wp2_with fail
      refine (Mul_any b false (tt (k + 1)) T.y1 _ f10).mono ?_
      rintro e w11 ⟨rfl, f11, k11⟩
      rw [T.j1] at f11 ⊢
      dsimp only at f11 ⊢
      have K11 : Kept b w w11 := Kept.trans K10 k11
      have MP_11 : Mp kp cp fp w11 := MP_10.kept k11 (by omega)
      have MD_11 : Mp kd cd fd w11 := MD_10.kept k11 (by omega)
      have MQ_11 : Mp kq cq fq w11 := MQ_10.kept k11 (by omega)
      have G0_11 : Arr 0 (row 54 at0) w11 := G0_10.kept k11 (by omega)
      have G1_11 : Arr 1 (row 10 yr0) w11 := G1_10.kept k11 (by omega)
      have B0_11 : Arr w.heap.size [.int .i64 nr, .int .i64 (ro 0), .int .i64 (ro 1), .int .i64 (ro 2), .int .i64 (ro 3), .int .i64 (ro 4), .int .i64 (ro 5), .int .i64 (ro 6), .int .i64 (ro 7), .int .i64 (ro 8), .int .i64 (ro 9), .int .i64 (ro 10), .int .i64 (ro 11), .int .i64 (ro 12), .int .i64 (ro 13), .map (some kp), .map (some kd), .map (some kq)] w11 := B0_10.kept k11 (Nat.ne_of_gt y1_BF)
      have B1_11 : Arr w9.heap.size [.int .i64 ((k : Int) + 1), .int .i64 (m : Int)] w11 := B1_10.kept k11 (Nat.ne_of_gt y2_BF)
      have z11 := B1_11.lies
      clear K10 f10 MP_10 MD_10 MQ_10 G0_10 G1_10 B0_10 B1_10 k11
      go_wp2_with fail
      refine (Part_any b false T.z1 (((k : Int) + 1) + 1) 1 _ f11).mono ?_
      rintro e w12 ⟨rfl, f12, k12⟩
      rw [T.q1] at f12 ⊢
      dsimp only at f12 ⊢
      have K12 : Kept b w w12 := Kept.trans K11 k12
      have MP_12 : Mp kp cp fp w12 := MP_11.kept k12 (by omega)
      have MD_12 : Mp kd cd fd w12 := MD_11.kept k12 (by omega)
      have MQ_12 : Mp kq cq fq w12 := MQ_11.kept k12 (by omega)
      have G0_12 : Arr 0 (row 54 at0) w12 := G0_11.kept k12 (by omega)
      have G1_12 : Arr 1 (row 10 yr0) w12 := G1_11.kept k12 (by omega)
      have B0_12 : Arr w.heap.size [.int .i64 nr, .int .i64 (ro 0), .int .i64 (ro 1), .int .i64 (ro 2), .int .i64 (ro 3), .int .i64 (ro 4), .int .i64 (ro 5), .int .i64 (ro 6), .int .i64 (ro 7), .int .i64 (ro 8), .int .i64 (ro 9), .int .i64 (ro 10), .int .i64 (ro 11), .int .i64 (ro 12), .int .i64 (ro 13), .map (some kp), .map (some kd), .map (some kq)] w12 := B0_11.kept k12 (Nat.ne_of_gt y1_BF)
      have B1_12 : Arr w9.heap.size [.int .i64 ((k : Int) + 1), .int .i64 (m : Int)] w12 := B1_11.kept k12 (Nat.ne_of_gt y2_BF)
      have z12 := B1_12.lies
      clear K11 f11 MP_11 MD_11 MQ_11 G0_11 G1_11 B0_11 B1_11 k12
      go_wp2_with fail
      refine (Add_any b false ((st k m).1) T.p1 _ f12).mono ?_
      rintro e w13 ⟨rfl, f13, k13⟩
      rw [T.a1] at f13 ⊢
      dsimp only at f13 ⊢
      have K13 : Kept b w w13 := Kept.trans K12 k13
      have MP_13 : Mp kp cp fp w13 := MP_12.kept k13 (by omega)
      have MD_13 : Mp kd cd fd w13 := MD_12.kept k13 (by omega)
      have MQ_13 : Mp kq cq fq w13 := MQ_12.kept k13 (by omega)
      have G0_13 : Arr 0 (row 54 at0) w13 := G0_12.kept k13 (by omega)
      have G1_13 : Arr 1 (row 10 yr0) w13 := G1_12.kept k13 (by omega)
      have B0_13 : Arr w.heap.size [.int .i64 nr, .int .i64 (ro 0), .int .i64 (ro 1), .int .i64 (ro 2), .int .i64 (ro 3), .int .i64 (ro 4), .int .i64 (ro 5), .int .i64 (ro 6), .int .i64 (ro 7), .int .i64 (ro 8), .int .i64 (ro 9), .int .i64 (ro 10), .int .i64 (ro 11), .int .i64 (ro 12), .int .i64 (ro 13), .map (some kp), .map (some kd), .map (some kq)] w13 := B0_12.kept k13 (Nat.ne_of_gt y1_BF)
      have B1_13 : Arr w9.heap.size [.int .i64 ((k : Int) + 1), .int .i64 (m : Int)] w13 := B1_12.kept k13 (Nat.ne_of_gt y2_BF)
      have z13 := B1_13.lies
      clear K12 f12 MP_12 MD_12 MQ_12 G0_12 G1_12 B0_12 B1_12 k13
      have c17_B0_16 : w13.cell? ⟨w.heap.size, 16, none⟩ = some (.map (some kd)) := B0_13.c 16 (of_decide_eq_true rfl)
      have c17_B1_0 : w13.cell? ⟨w9.heap.size, 0, none⟩ = some (.int .i64 ((k : Int) + 1)) := B1_13.c 0 (of_decide_eq_true rfl)
      have c17_B1_1 : w13.cell? ⟨w9.heap.size, 1, none⟩ = some (.int .i64 (m : Int)) := B1_13.c 1 (of_decide_eq_true rfl)
      go_wp2_with (refine mp_look rfl rfl rfl rfl MD_13 ⟨by omega, by omega⟩ ⟨by omega, by omega⟩ ?_)
      refine (Mul_any b false T.e (fd ((k : Int) + 1) (m : Int)) _ f13).mono ?_
      rintro e w14 ⟨rfl, f14, k14⟩
      rw [T.i2] at f14 ⊢
      dsimp only at f14 ⊢
      have K14 : Kept b w w14 := Kept.trans K13 k14
      have MP_14 : Mp kp cp fp w14 := MP_13.kept k14 (by omega)
      have MD_14 : Mp kd cd fd w14 := MD_13.kept k14 (by omega)
      have MQ_14 : Mp kq cq fq w14 := MQ_13.kept k14 (by omega)
      have G0_14 : Arr 0 (row 54 at0) w14 := G0_13.kept k14 (by omega)
      have G1_14 : Arr 1 (row 10 yr0) w14 := G1_13.kept k14 (by omega)
      have B0_14 : Arr w.heap.size [.int .i64 nr, .int .i64 (ro 0), .int .i64 (ro 1), .int .i64 (ro 2), .int .i64 (ro 3), .int .i64 (ro 4), .int .i64 (ro 5), .int .i64 (ro 6), .int .i64 (ro 7), .int .i64 (ro 8), .int .i64 (ro 9), .int .i64 (ro 10), .int .i64 (ro 11), .int .i64 (ro 12), .int .i64 (ro 13), .map (some kp), .map (some kd), .map (some kq)] w14 := B0_13.kept k14 (Nat.ne_of_gt y1_BF)
      have B1_14 : Arr w9.heap.size [.int .i64 ((k : Int) + 1), .int .i64 (m : Int)] w14 := B1_13.kept k14 (Nat.ne_of_gt y2_BF)
      have z14 := B1_14.lies
      clear c17_B0_16 c17_B1_0 c17_B1_1 K13 f13 MP_13 MD_13 MQ_13 G0_13 G1_13 B0_13 B1_13 k14
      go_wp2_with fail
      refine (Mul_any b false (tt (k + 1)) T.y2 _ f14).mono ?_
      rintro e w15 ⟨rfl, f15, k15⟩
      rw [T.j2] at f15 ⊢
      dsimp only at f15 ⊢
      have K15 : Kept b w w15 := Kept.trans K14 k15
      have MP_15 : Mp kp cp fp w15 := MP_14.kept k15 (by omega)
      have MD_15 : Mp kd cd fd w15 := MD_14.kept k15 (by omega)
      have MQ_15 : Mp kq cq fq w15 := MQ_14.kept k15 (by omega)
      have G0_15 : Arr 0 (row 54 at0) w15 := G0_14.kept k15 (by omega)
      have G1_15 : Arr 1 (row 10 yr0) w15 := G1_14.kept k15 (by omega)
      have B0_15 : Arr w.heap.size [.int .i64 nr, .int .i64 (ro 0), .int .i64 (ro 1), .int .i64 (ro 2), .int .i64 (ro 3), .int .i64 (ro 4), .int .i64 (ro 5), .int .i64 (ro 6), .int .i64 (ro 7), .int .i64 (ro 8), .int .i64 (ro 9), .int .i64 (ro 10), .int .i64 (ro 11), .int .i64 (ro 12), .int .i64 (ro 13), .map (some kp), .map (some kd), .map (some kq)] w15 := B0_14.kept k15 (Nat.ne_of_gt y1_BF)
      have B1_15 : Arr w9.heap.size [.int .i64 ((k : Int) + 1), .int .i64 (m : Int)] w15 := B1_14.kept k15 (Nat.ne_of_gt y2_BF)
      have z15 := B1_15.lies
      clear K14 f14 MP_14 MD_14 MQ_14 G0_14 G1_14 B0_14 B1_14 k15
      go_wp2_with fail
      refine (Sub_any b false ((st k m).2.1) T.z2 _ f15).mono ?_
      rintro e w16 ⟨rfl, f16, k16⟩
      rw [T.a2] at f16 ⊢
      dsimp only at f16 ⊢
      have K16 : Kept b w w16 := Kept.trans K15 k16
      have MP_16 : Mp kp cp fp w16 := MP_15.kept k16 (by omega)
      have MD_16 : Mp kd cd fd w16 := MD_15.kept k16 (by omega)
      have MQ_16 : Mp kq cq fq w16 := MQ_15.kept k16 (by omega)
      have G0_16 : Arr 0 (row 54 at0) w16 := G0_15.kept k16 (by omega)
      have G1_16 : Arr 1 (row 10 yr0) w16 := G1_15.kept k16 (by omega)
      have B0_16 : Arr w.heap.size [.int .i64 nr, .int .i64 (ro 0), .int .i64 (ro 1), .int .i64 (ro 2), .int .i64 (ro 3), .int .i64 (ro 4), .int .i64 (ro 5), .int .i64 (ro 6), .int .i64 (ro 7), .int .i64 (ro 8), .int .i64 (ro 9), .int .i64 (ro 10), .int .i64 (ro 11), .int .i64 (ro 12), .int .i64 (ro 13), .map (some kp), .map (some kd), .map (some kq)] w16 := B0_15.kept k16 (Nat.ne_of_gt y1_BF)
      have B1_16 : Arr w9.heap.size [.int .i64 ((k : Int) + 1), .int .i64 (m : Int)] w16 := B1_15.kept k16 (Nat.ne_of_gt y2_BF)
      have z16 := B1_16.lies
      clear K15 f15 MP_15 MD_15 MQ_15 G0_15 G1_15 B0_15 B1_15 k16
      have c20_B0_17 : w16.cell? ⟨w.heap.size, 17, none⟩ = some (.map (some kq)) := B0_16.c 17 (of_decide_eq_true rfl)
      have c20_B1_0 : w16.cell? ⟨w9.heap.size, 0, none⟩ = some (.int .i64 ((k : Int) + 1)) := B1_16.c 0 (of_decide_eq_true rfl)
      have c20_B1_1 : w16.cell? ⟨w9.heap.size, 1, none⟩ = some (.int .i64 (m : Int)) := B1_16.c 1 (of_decide_eq_true rfl)
      go_wp2_with (refine mp_look rfl rfl rfl rfl MQ_16 ⟨by omega, by omega⟩ ⟨by omega, by omega⟩ ?_)
      refine (Mul_any b false T.o (fq ((k : Int) + 1) (m : Int)) _ f16).mono ?_
      rintro e w17 ⟨rfl, f17, k17⟩
      rw [T.i3] at f17 ⊢
      dsimp only at f17 ⊢
      have K17 : Kept b w w17 := Kept.trans K16 k17
      have MP_17 : Mp kp cp fp w17 := MP_16.kept k17 (by omega)
      have MD_17 : Mp kd cd fd w17 := MD_16.kept k17 (by omega)
      have MQ_17 : Mp kq cq fq w17 := MQ_16.kept k17 (by omega)
      have G0_17 : Arr 0 (row 54 at0) w17 := G0_16.kept k17 (by omega)
      have G1_17 : Arr 1 (row 10 yr0) w17 := G1_16.kept k17 (by omega)
      have B0_17 : Arr w.heap.size [.int .i64 nr, .int .i64 (ro 0), .int .i64 (ro 1), .int .i64 (ro 2), .int .i64 (ro 3), .int .i64 (ro 4), .int .i64 (ro 5), .int .i64 (ro 6), .int .i64 (ro 7), .int .i64 (ro 8), .int .i64 (ro 9), .int .i64 (ro 10), .int .i64 (ro 11), .int .i64 (ro 12), .int .i64 (ro 13), .map (some kp), .map (some kd), .map (some kq)] w17 := B0_16.kept k17 (Nat.ne_of_gt y1_BF)
      have B1_17 : Arr w9.heap.size [.int .i64 ((k : Int) + 1), .int .i64 (m : Int)] w17 := B1_16.kept k17 (Nat.ne_of_gt y2_BF)
      have z17 := B1_17.lies
      clear c20_B0_17 c20_B1_0 c20_B1_1 K16 f16 MP_16 MD_16 MQ_16 G0_16 G1_16 B0_16 B1_16 k17
      go_wp2_with fail
      refine (Mul_any b false (tt (k + 1)) T.y3 _ f17).mono ?_
      rintro e w18 ⟨rfl, f18, k18⟩
      rw [T.j3] at f18 ⊢
      dsimp only at f18 ⊢
      have K18 : Kept b w w18 := Kept.trans K17 k18
      have MP_18 : Mp kp cp fp w18 := MP_17.kept k18 (by omega)
      have MD_18 : Mp kd cd fd w18 := MD_17.kept k18 (by omega)
      have MQ_18 : Mp kq cq fq w18 := MQ_17.kept k18 (by omega)
      have G0_18 : Arr 0 (row 54 at0) w18 := G0_17.kept k18 (by omega)
      have G1_18 : Arr 1 (row 10 yr0) w18 := G1_17.kept k18 (by omega)
      have B0_18 : Arr w.heap.size [.int .i64 nr, .int .i64 (ro 0), .int .i64 (ro 1), .int .i64 (ro 2), .int .i64 (ro 3), .int .i64 (ro 4), .int .i64 (ro 5), .int .i64 (ro 6), .int .i64 (ro 7), .int .i64 (ro 8), .int .i64 (ro 9), .int .i64 (ro 10), .int .i64 (ro 11), .int .i64 (ro 12), .int .i64 (ro 13), .map (some kp), .map (some kd), .map (some kq)] w18 := B0_17.kept k18 (Nat.ne_of_gt y1_BF)
      have B1_18 : Arr w9.heap.size [.int .i64 ((k : Int) + 1), .int .i64 (m : Int)] w18 := B1_17.kept k18 (Nat.ne_of_gt y2_BF)
      have z18 := B1_18.lies
      clear K17 f17 MP_17 MD_17 MQ_17 G0_17 G1_17 B0_17 B1_17 k18
      go_wp2_with fail
      refine (Part_any b false T.z3 (m : Int) 1 _ f18).mono ?_
      rintro e w19 ⟨rfl, f19, k19⟩
      rw [T.q3] at f19 ⊢
      dsimp only at f19 ⊢
      have K19 : Kept b w w19 := Kept.trans K18 k19
      have MP_19 : Mp kp cp fp w19 := MP_18.kept k19 (by omega)
      have MD_19 : Mp kd cd fd w19 := MD_18.kept k19 (by omega)
      have MQ_19 : Mp kq cq fq w19 := MQ_18.kept k19 (by omega)
      have G0_19 : Arr 0 (row 54 at0) w19 := G0_18.kept k19 (by omega)
      have G1_19 : Arr 1 (row 10 yr0) w19 := G1_18.kept k19 (by omega)
      have B0_19 : Arr w.heap.size [.int .i64 nr, .int .i64 (ro 0), .int .i64 (ro 1), .int .i64 (ro 2), .int .i64 (ro 3), .int .i64 (ro 4), .int .i64 (ro 5), .int .i64 (ro 6), .int .i64 (ro 7), .int .i64 (ro 8), .int .i64 (ro 9), .int .i64 (ro 10), .int .i64 (ro 11), .int .i64 (ro 12), .int .i64 (ro 13), .map (some kp), .map (some kd), .map (some kq)] w19 := B0_18.kept k19 (Nat.ne_of_gt y1_BF)
      have B1_19 : Arr w9.heap.size [.int .i64 ((k : Int) + 1), .int .i64 (m : Int)] w19 := B1_18.kept k19 (Nat.ne_of_gt y2_BF)
      have z19 := B1_19.lies
      clear K18 f18 MP_18 MD_18 MQ_18 G0_18 G1_18 B0_18 B1_18 k19
      go_wp2_with fail
      refine (Add_any b false ((st k m).2.2) T.p3 _ f19).mono ?_
      rintro e w20 ⟨rfl, f20, k20⟩
      rw [T.a3] at f20 ⊢
      dsimp only at f20 ⊢
      have K20 : Kept b w w20 := Kept.trans K19 k20
      have MP_20 : Mp kp cp fp w20 := MP_19.kept k20 (by omega)
      have MD_20 : Mp kd cd fd w20 := MD_19.kept k20 (by omega)
      have MQ_20 : Mp kq cq fq w20 := MQ_19.kept k20 (by omega)
      have G0_20 : Arr 0 (row 54 at0) w20 := G0_19.kept k20 (by omega)
      have G1_20 : Arr 1 (row 10 yr0) w20 := G1_19.kept k20 (by omega)
      have B0_20 : Arr w.heap.size [.int .i64 nr, .int .i64 (ro 0), .int .i64 (ro 1), .int .i64 (ro 2), .int .i64 (ro 3), .int .i64 (ro 4), .int .i64 (ro 5), .int .i64 (ro 6), .int .i64 (ro 7), .int .i64 (ro 8), .int .i64 (ro 9), .int .i64 (ro 10), .int .i64 (ro 11), .int .i64 (ro 12), .int .i64 (ro 13), .map (some kp), .map (some kd), .map (some kq)] w20 := B0_19.kept k20 (Nat.ne_of_gt y1_BF)
      have B1_20 : Arr w9.heap.size [.int .i64 ((k : Int) + 1), .int .i64 (m : Int)] w20 := B1_19.kept k20 (Nat.ne_of_gt y2_BF)
      have z20 := B1_20.lies
      clear K19 f19 MP_19 MD_19 MQ_19 G0_19 G1_19 B0_19 B1_19 k20
      go_wp2_with fail
      rw [hJ1.out]
      intro G_ hG_
      exact hG_ _ _ _ _ _ _ _ _ _ _ _ _ _ _ _ _ _ _ _ _ _ _ _ _ _ _ _ _ _ _ _ _ _ _ _ _ _ _ _ _ _ _ _ _ _ _ _ _ _ _ _ _ _ _ _ _ _ _ _ _ _ _ _ _ _ _ _ _ _ _ _ _ _ _ _ _ _ _ _ _ _ _ _ _ _ _ _ _ _ _ _ _ _ _ _ _ _ _ _ _ _ _ _ _ _ _ _ _ _ _ _ _ _ _ _ _ _ _ _ _ _ _ _ rfl K20 f20 MP_20 MD_20 MQ_20 G0_20 G1_20 B0_20
    · intro a Wl1 hI R
      rw [hJ1.out] at hI
      refine hI _ ?_
      clear hI hJ1
      intro t1_1 t1_3 t1_5 t1_12 t1_13 t1_14 t1_15 t1_16 t1_17 t1_18 t1_19 t1_20 t1_21 t1_22 t1_23 t1_24 t1_25 t1_26 t1_27 t1_28 t1_29 t1_30 t1_31 t1_32 t1_33 t1_34 t1_35 t1_36 t1_37 t1_38 t1_39 t1_40 t1_41 t1_42 t1_43 t1_44 t1_45 t1_46 t1_47 t1_48 t1_49 t1_50 t1_51 t1_52 t1_53 t1_54 t1_55 t1_56 t1_57 t1_58 t1_59 t1_60 t1_61 t1_62 t1_63 t1_64 t1_65 t1_66 t1_67 t1_68 t1_69 t1_70 t1_71 t1_72 t1_73 t1_74 t1_75 t1_76 t1_77 t1_78 t1_79 t1_80 t1_81 t1_82 t1_83 t1_84 t1_85 t1_86 t1_87 t1_88 t1_89 t1_90 t1_91 t1_92 t1_93 t1_94 t1_95 t1_96 t1_97 t1_98 t1_99 t1_100 t1_101 t1_102 t1_103 t1_104 t1_105 t1_106 t1_107 t1_108 t1_109 t1_110 t1_111 t1_112 t1_113 t1_114 t1_115 t1_116 t1_117 t1_118 t1_119 t1_120 t1_121 t1_122 t1_123 t1_124 t1_125 t1_126 t1_127 t1_128 t1_129 t1_130 t1_131 ea Kl1 BF_l1 MP_l1 MD_l1 MQ_l1 G0_l1 G1_l1 B0_l1
      subst ea
      have zl1_BF := BF_l1.lies
      have zl1_MP := MP_l1.lies
      have zl1_MD := MD_l1.lies
      have zl1_MQ := MQ_l1.lies
      have zl1_G0 := G0_l1.lies
      have zl1_G1 := G1_l1.lies
      have zl1_B0 := B0_l1.lies
      go_wp2_with fail
      rw [hJ0.out]
      intro G_ hG_
      exact hG_ _ _ _ _ _ _ _ _ _ _ _ _ _ _ _ _ _ _ _ _ _ _ _ _ _ _ _ _ _ _ _ _ _ _ _ _ _ _ _ _ _ _ _ _ _ _ _ _ _ _ _ _ _ _ _ _ _ _ _ _ _ _ _ _ _ _ _ _ _ _ _ _ _ _ _ _ _ _ _ _ _ _ _ _ _ _ _ _ _ _ _ _ _ _ _ _ _ _ _ _ _ _ _ _ _ _ _ _ _ _ _ _ _ _ _ _ _ _ _ _ _ _ _ _ rfl Kl1 BF_l1 MP_l1 MD_l1 MQ_l1 G0_l1 G1_l1 B0_l1
  · intro a Wl0 hI R
    rw [hJ0.out] at hI
    refine hI _ ?_
    clear hI hJ0
    intro t0_1 t0_3 t0_5 t0_11 t0_12 t0_13 t0_14 t0_15 t0_16 t0_17 t0_18 t0_19 t0_20 t0_21 t0_22 t0_23 t0_24 t0_25 t0_26 t0_27 t0_28 t0_29 t0_30 t0_31 t0_32 t0_33 t0_34 t0_35 t0_36 t0_37 t0_38 t0_39 t0_40 t0_41 t0_42 t0_43 t0_44 t0_45 t0_46 t0_47 t0_48 t0_49 t0_50 t0_51 t0_52 t0_53 t0_54 t0_55 t0_56 t0_57 t0_58 t0_59 t0_60 t0_61 t0_62 t0_63 t0_64 t0_65 t0_66 t0_67 t0_68 t0_69 t0_70 t0_71 t0_72 t0_73 t0_74 t0_75 t0_76 t0_77 t0_78 t0_79 t0_80 t0_81 t0_82 t0_83 t0_84 t0_85 t0_86 t0_87 t0_88 t0_89 t0_90 t0_91 t0_92 t0_93 t0_94 t0_95 t0_96 t0_97 t0_98 t0_99 t0_100 t0_101 t0_102 t0_103 t0_104 t0_105 t0_106 t0_107 t0_108 t0_109 t0_110 t0_111 t0_112 t0_113 t0_114 t0_115 t0_116 t0_117 t0_118 t0_119 t0_120 t0_121 t0_122 t0_123 t0_124 t0_125 t0_126 t0_127 t0_128 t0_129 t0_130 t0_131 ea Kl0 BF_l0 MP_l0 MD_l0 MQ_l0 G0_l0 G1_l0 B0_l0
    subst ea
    have zl0_BF := BF_l0.lies
    have zl0_MP := MP_l0.lies
    have zl0_MD := MD_l0.lies
    have zl0_MQ := MQ_l0.lies
    have zl0_G0 := G0_l0.lies
    have zl0_G1 := G1_l0.lies
    have zl0_B0 := B0_l0.lies
    go_wp2
    refine bodyPost_ret (v := .tuple #[.int .i64 ((st 6 0).1), .int .i64 ((st 6 0).2.1), .int .i64 ((st 6 0).2.2)]) (by simp [results, Tryz.results221, go_sem]) rfl ?_
    exact ⟨rfl, BF_l0, Kl0⟩
end Go.Proofs.YtoadcnhcfodkgaaGreatDoor
