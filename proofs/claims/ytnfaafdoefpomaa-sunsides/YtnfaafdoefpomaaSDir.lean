/-
  The walks of sun.Direction, for the seat Ytnfaafdoefpomaa. (Made by mksun.py.)
-/
import Derived.Test.YtnfaafdoefpomaaSSpec
import Derived.Test.YtnfaafdoefpomaaTSin
import Derived.Test.YtnfaafdoefpomaaMeth
import Derived.Test.YtnfaafdoefpomaaVMem
import Derived.Test.YtnfaafdoefpomaaCCDays
import Derived.Test.YtnfaafdoefpomaaStop
import Derived.Handy
import Derived.Deep.RegionHeld3
namespace Go.Proofs.Ytnfaafdoefpomaa
open Go.RowKit

set_option maxRecDepth 100000 in
set_option maxHeartbeats 2000000 in
theorem along_bad (b : Nat) (d : Int) (w : World) (hw : Fl b true w) :
    Calls Try.prog 16 #[.pointer (some ⟨b, 0, none⟩), .int .i64 d] w fun e w' => e = .returned (.int .i64 0) ∧ Fl b true w' ∧ Kept b w w' := by
  have hl := hw.lies
  go_enter Try.func16, Try.ntmps16
  go_wp2_with fail
  refine (Mul_any b true 18913766030 d _ hw).mono ?_
  rintro e w1 ⟨rfl, f1, k1⟩
  rw [mulS_true] at f1 ⊢
  dsimp only at f1 ⊢
  have K1 : Kept b w w1 := Kept.trans (Kept.refl b w) k1
  have z1 := K1.size
  clear k1
  go_wp2_with fail
  refine (Add_any b true 6870645337657 0 _ f1).mono ?_
  rintro e w2 ⟨rfl, f2, k2⟩
  rw [addS_true] at f2 ⊢
  dsimp only at f2 ⊢
  have K2 : Kept b w w2 := Kept.trans K1 k2
  have z2 := K2.size
  clear K1 f1 k2
  go_wp2_with fail
  refine (Mod_any b true 0 6908435304716 _ f2).mono ?_
  rintro e w3 ⟨rfl, f3, k3⟩
  rw [modS_true] at f3 ⊢
  dsimp only at f3 ⊢
  have K3 : Kept b w w3 := Kept.trans K2 k3
  have z3 := K3.size
  clear K2 f2 k3
  go_wp2_with fail
  refine (Mul_any b true 18914669500 d _ f3).mono ?_
  rintro e w4 ⟨rfl, f4, k4⟩
  rw [mulS_true] at f4 ⊢
  dsimp only at f4 ⊢
  have K4 : Kept b w w4 := Kept.trans K3 k4
  have z4 := K4.size
  clear K3 f3 k4
  go_wp2_with fail
  refine (Add_any b true 5399914965875 0 _ f4).mono ?_
  rintro e w5 ⟨rfl, f5, k5⟩
  rw [addS_true] at f5 ⊢
  dsimp only at f5 ⊢
  have K5 : Kept b w w5 := Kept.trans K4 k5
  have z5 := K5.size
  clear K4 f4 k5
  go_wp2_with fail
  refine (Mod_any b true 0 6908435304716 _ f5).mono ?_
  rintro e w6 ⟨rfl, f6, k6⟩
  rw [modS_true] at f6 ⊢
  dsimp only at f6 ⊢
  have K6 : Kept b w w6 := Kept.trans K5 k6
  have z6 := K6.size
  clear K5 f5 k6
  go_wp2_with fail
  refine (Sin_any b true 0 _ f6).mono ?_
  rintro e w7 ⟨rfl, f7, k7⟩
  rw [sinA_true] at f7 ⊢
  dsimp only at f7 ⊢
  have K7 : Kept b w w7 := Kept.trans K6 k7
  have z7 := K7.size
  clear K6 f6 k7
  go_wp2_with fail
  refine (Mul_any b true 36749037801 0 _ f7).mono ?_
  rintro e w8 ⟨rfl, f8, k8⟩
  rw [mulS_true] at f8 ⊢
  dsimp only at f8 ⊢
  have K8 : Kept b w w8 := Kept.trans K7 k8
  have z8 := K8.size
  clear K7 f7 k8
  go_wp2_with fail
  refine (Sin_any b true 0 _ f8).mono ?_
  rintro e w9 ⟨rfl, f9, k9⟩
  rw [sinA_true] at f9 ⊢
  dsimp only at f9 ⊢
  have K9 : Kept b w w9 := Kept.trans K8 k9
  have z9 := K9.size
  clear K8 f8 k9
  go_wp2_with fail
  refine (Mul_any b true 383801961 0 _ f9).mono ?_
  rintro e w10 ⟨rfl, f10, k10⟩
  rw [mulS_true] at f10 ⊢
  dsimp only at f10 ⊢
  have K10 : Kept b w w10 := Kept.trans K9 k10
  have z10 := K10.size
  clear K9 f9 k10
  go_wp2_with fail
  refine (Add_any b true 0 0 _ f10).mono ?_
  rintro e w11 ⟨rfl, f11, k11⟩
  rw [addS_true] at f11 ⊢
  dsimp only at f11 ⊢
  have K11 : Kept b w w11 := Kept.trans K10 k11
  have z11 := K11.size
  clear K10 f10 k11
  go_wp2_with fail
  refine (Add_any b true 0 0 _ f11).mono ?_
  rintro e w12 ⟨rfl, f12, k12⟩
  rw [addS_true] at f12 ⊢
  dsimp only at f12 ⊢
  have K12 : Kept b w w12 := Kept.trans K11 k12
  have z12 := K12.size
  clear K11 f11 k12
  go_wp2
  go_ret
  exact ⟨rfl, f12, K12⟩
set_option maxRecDepth 100000 in
set_option maxHeartbeats 2000000 in
theorem along_in (b : Nat) (d : Int) (w : World) (hw : Fl b false w) (Q : SunS d) :
    Calls Try.prog 16 #[.pointer (some ⟨b, 0, none⟩), .int .i64 d] w fun e w' => e = .returned (.int .i64 (((5399914965875 + Q.q1) % 6908435304716) + Q.a + Q.b)) ∧ Fl b false w' ∧ Kept b w w' := by
  have hl := hw.lies
  go_enter Try.func16, Try.ntmps16
  go_wp2_with fail
  refine (Mul_any b false 18913766030 d _ hw).mono ?_
  rintro e w1 ⟨rfl, f1, k1⟩
  rw [Q.hg1] at f1 ⊢
  dsimp only at f1 ⊢
  have K1 : Kept b w w1 := Kept.trans (Kept.refl b w) k1
  have z1 := K1.size
  clear k1
  go_wp2_with fail
  refine (Add_any b false 6870645337657 Q.g1 _ f1).mono ?_
  rintro e w2 ⟨rfl, f2, k2⟩
  rw [Q.hg2] at f2 ⊢
  dsimp only at f2 ⊢
  have K2 : Kept b w w2 := Kept.trans K1 k2
  have z2 := K2.size
  clear K1 f1 k2
  go_wp2_with fail
  refine (Mod_any b false (6870645337657 + Q.g1) 6908435304716 _ f2).mono ?_
  rintro e w3 ⟨rfl, f3, k3⟩
  rw [Q.hg] at f3 ⊢
  dsimp only at f3 ⊢
  have K3 : Kept b w w3 := Kept.trans K2 k3
  have z3 := K3.size
  clear K2 f2 k3
  go_wp2_with fail
  refine (Mul_any b false 18914669500 d _ f3).mono ?_
  rintro e w4 ⟨rfl, f4, k4⟩
  rw [Q.hq1] at f4 ⊢
  dsimp only at f4 ⊢
  have K4 : Kept b w w4 := Kept.trans K3 k4
  have z4 := K4.size
  clear K3 f3 k4
  go_wp2_with fail
  refine (Add_any b false 5399914965875 Q.q1 _ f4).mono ?_
  rintro e w5 ⟨rfl, f5, k5⟩
  rw [Q.hq2] at f5 ⊢
  dsimp only at f5 ⊢
  have K5 : Kept b w w5 := Kept.trans K4 k5
  have z5 := K5.size
  clear K4 f4 k5
  go_wp2_with fail
  refine (Mod_any b false (5399914965875 + Q.q1) 6908435304716 _ f5).mono ?_
  rintro e w6 ⟨rfl, f6, k6⟩
  rw [Q.hq] at f6 ⊢
  dsimp only at f6 ⊢
  have K6 : Kept b w w6 := Kept.trans K5 k6
  have z6 := K6.size
  clear K5 f5 k6
  go_wp2_with fail
  refine (Sin_any b false ((6870645337657 + Q.g1) % 6908435304716) _ f6).mono ?_
  rintro e w7 ⟨rfl, f7, k7⟩
  rw [Q.hsg] at f7 ⊢
  dsimp only at f7 ⊢
  have K7 : Kept b w w7 := Kept.trans K6 k7
  have z7 := K7.size
  clear K6 f6 k7
  go_wp2_with fail
  refine (Mul_any b false 36749037801 Q.sg _ f7).mono ?_
  rintro e w8 ⟨rfl, f8, k8⟩
  rw [Q.ha] at f8 ⊢
  dsimp only at f8 ⊢
  have K8 : Kept b w w8 := Kept.trans K7 k8
  have z8 := K8.size
  clear K7 f7 k8
  go_wp2_with fail
  refine (Sin_any b false (2 * ((6870645337657 + Q.g1) % 6908435304716)) _ f8).mono ?_
  rintro e w9 ⟨rfl, f9, k9⟩
  rw [Q.hs2] at f9 ⊢
  dsimp only at f9 ⊢
  have K9 : Kept b w w9 := Kept.trans K8 k9
  have z9 := K9.size
  clear K8 f8 k9
  go_wp2_with fail
  refine (Mul_any b false 383801961 Q.s2 _ f9).mono ?_
  rintro e w10 ⟨rfl, f10, k10⟩
  rw [Q.hb] at f10 ⊢
  dsimp only at f10 ⊢
  have K10 : Kept b w w10 := Kept.trans K9 k10
  have z10 := K10.size
  clear K9 f9 k10
  go_wp2_with fail
  refine (Add_any b false ((5399914965875 + Q.q1) % 6908435304716) Q.a _ f10).mono ?_
  rintro e w11 ⟨rfl, f11, k11⟩
  rw [Q.hqa] at f11 ⊢
  dsimp only at f11 ⊢
  have K11 : Kept b w w11 := Kept.trans K10 k11
  have z11 := K11.size
  clear K10 f10 k11
  go_wp2_with fail
  refine (Add_any b false (((5399914965875 + Q.q1) % 6908435304716) + Q.a) Q.b _ f11).mono ?_
  rintro e w12 ⟨rfl, f12, k12⟩
  rw [Q.hl] at f12 ⊢
  dsimp only at f12 ⊢
  have K12 : Kept b w w12 := Kept.trans K11 k12
  have z12 := K12.size
  clear K11 f11 k12
  go_wp2
  go_ret
  exact ⟨rfl, f12, K12⟩
theorem along_t (b : Nat) (bad : Bool) (d : Int) (w : World) (hw : Fl b bad w) (hb : bad = true) :
    Calls Try.prog 16 #[.pointer (some ⟨b, 0, none⟩), .int .i64 d] w fun e w' => e = .returned (.int .i64 (alongS bad d).1) ∧ Fl b (alongS bad d).2 w' ∧ Kept b w w' := by
  subst hb
  rw [alongS_true]
  exact along_bad b d w hw
theorem along_g (b : Nat) (bad : Bool) (d : Int) (w : World) (hw : Fl b bad w) (hb : bad = false) (Q : SunS d) :
    Calls Try.prog 16 #[.pointer (some ⟨b, 0, none⟩), .int .i64 d] w fun e w' => e = .returned (.int .i64 (alongS bad d).1) ∧ Fl b (alongS bad d).2 w' ∧ Kept b w w' := by
  subst hb
  rw [along_good Q]
  exact along_in b d w hw Q
set_option maxRecDepth 100000 in
set_option maxHeartbeats 2000000 in
theorem sDir_n1 (b : Nat) (bad : Bool) (t : Int) (w : World) (hw : Fl b bad w) (hn : ¬ (0 ≤ t ∧ t ≤ 157766400000)) :
    Calls Try.prog 8 #[.pointer (some ⟨b, 0, none⟩), .int .i64 t] w fun e w' => e = .returned (.agg #[.int .i64 ((0, 0, 0).1), .int .i64 ((0, 0, 0).2.1), .int .i64 ((0, 0, 0).2.2)]) ∧ Fl b true w' ∧ Kept b w w' := by
  have hl := hw.lies
  go_enter Try.func8, Try.ntmps8
  have y1_BF : b < w.heap.size := hw.lies
  go_wp2_with fail
  refine (cDays_any b bad t _ (hw.alloc _)).mono ?_
  rintro e w1 ⟨rfl, f1, k1⟩
  rw [(cDaysS_out bad hn)] at f1 ⊢
  dsimp only at f1 ⊢
  have K1 : Kept b w w1 := Kept.trans ((Kept.refl b w).al _) k1
  have B0_1 : Arr w.heap.size [.int .i64 0, .int .i64 0, .int .i64 0] w1 := (Arr_at _ _ [.int .i64 0, .int .i64 0, .int .i64 0] _ (by simp)).kept k1 (Nat.ne_of_gt y1_BF)
  have z1 := B0_1.lies
  clear k1
  go_wp2_with fail
  refine (along_t b true 0 _ f1 rfl).mono ?_
  rintro e w2 ⟨rfl, f2, k2⟩
  rw [alongS_true] at f2 ⊢
  dsimp only at f2 ⊢
  have K2 : Kept b w w2 := Kept.trans K1 k2
  have B0_2 : Arr w.heap.size [.int .i64 0, .int .i64 0, .int .i64 0] w2 := B0_1.kept k2 (Nat.ne_of_gt y1_BF)
  have z2 := B0_2.lies
  clear K1 f1 B0_1 k2
  go_wp2_with fail
  refine (Mul_any b true 6908 0 _ f2).mono ?_
  rintro e w3 ⟨rfl, f3, k3⟩
  rw [mulS_true] at f3 ⊢
  dsimp only at f3 ⊢
  have K3 : Kept b w w3 := Kept.trans K2 k3
  have B0_3 : Arr w.heap.size [.int .i64 0, .int .i64 0, .int .i64 0] w3 := B0_2.kept k3 (Nat.ne_of_gt y1_BF)
  have z3 := B0_3.lies
  clear K2 f2 B0_2 k3
  go_wp2_with fail
  refine (Sub_any b true 449733620800 0 _ f3).mono ?_
  rintro e w4 ⟨rfl, f4, k4⟩
  rw [subS_true] at f4 ⊢
  dsimp only at f4 ⊢
  have K4 : Kept b w w4 := Kept.trans K3 k4
  have B0_4 : Arr w.heap.size [.int .i64 0, .int .i64 0, .int .i64 0] w4 := B0_3.kept k4 (Nat.ne_of_gt y1_BF)
  have z4 := B0_4.lies
  clear K3 f3 B0_3 k4
  go_wp2_with fail
  refine (Sin_any b true 0 _ f4).mono ?_
  rintro e w5 ⟨rfl, f5, k5⟩
  rw [sinA_true] at f5 ⊢
  dsimp only at f5 ⊢
  have K5 : Kept b w w5 := Kept.trans K4 k5
  have B0_5 : Arr w.heap.size [.int .i64 0, .int .i64 0, .int .i64 0] w5 := B0_4.kept k5 (Nat.ne_of_gt y1_BF)
  have z5 := B0_5.lies
  clear K4 f4 B0_4 k5
  go_wp2_with fail
  refine (Cos_any b true 0 _ f5).mono ?_
  rintro e w6 ⟨rfl, f6, k6⟩
  rw [cosA_true] at f6 ⊢
  dsimp only at f6 ⊢
  have K6 : Kept b w w6 := Kept.trans K5 k6
  have B0_6 : Arr w.heap.size [.int .i64 0, .int .i64 0, .int .i64 0] w6 := B0_5.kept k6 (Nat.ne_of_gt y1_BF)
  have z6 := B0_6.lies
  clear K5 f5 B0_5 k6
  go_wp2_with fail
  refine (Cos_any b true 0 _ f6).mono ?_
  rintro e w7 ⟨rfl, f7, k7⟩
  rw [cosA_true] at f7 ⊢
  dsimp only at f7 ⊢
  have K7 : Kept b w w7 := Kept.trans K6 k7
  have B0_7 : Arr w.heap.size [.int .i64 0, .int .i64 0, .int .i64 0] w7 := B0_6.kept k7 (Nat.ne_of_gt y1_BF)
  have z7 := B0_7.lies
  clear K6 f6 B0_6 k7
  go_wp2_with fail
  refine (Mul_any b true 0 0 _ f7).mono ?_
  rintro e w8 ⟨rfl, f8, k8⟩
  rw [mulS_true] at f8 ⊢
  dsimp only at f8 ⊢
  have K8 : Kept b w w8 := Kept.trans K7 k8
  have B0_8 : Arr w.heap.size [.int .i64 0, .int .i64 0, .int .i64 0] w8 := B0_7.kept k8 (Nat.ne_of_gt y1_BF)
  have z8 := B0_8.lies
  clear K7 f7 B0_7 k8
  go_wp2_with fail
  refine (Sin_any b true 0 _ f8).mono ?_
  rintro e w9 ⟨rfl, f9, k9⟩
  rw [sinA_true] at f9 ⊢
  dsimp only at f9 ⊢
  have K9 : Kept b w w9 := Kept.trans K8 k9
  have B0_9 : Arr w.heap.size [.int .i64 0, .int .i64 0, .int .i64 0] w9 := B0_8.kept k9 (Nat.ne_of_gt y1_BF)
  have z9 := B0_9.lies
  clear K8 f8 B0_8 k9
  go_wp2_with fail
  refine (Mul_any b true 0 0 _ f9).mono ?_
  rintro e w10 ⟨rfl, f10, k10⟩
  rw [mulS_true] at f10 ⊢
  dsimp only at f10 ⊢
  have K10 : Kept b w w10 := Kept.trans K9 k10
  have B0_10 : Arr w.heap.size [.int .i64 0, .int .i64 0, .int .i64 0] w10 := B0_9.kept k10 (Nat.ne_of_gt y1_BF)
  have z10 := B0_10.lies
  clear K9 f9 B0_9 k10
  have c11_B0_0 : w10.cell? ⟨w.heap.size, 0, none⟩ = some (.int .i64 0) := B0_10.c 0 (of_decide_eq_true rfl)
  have c11_B0_1 : w10.cell? ⟨w.heap.size, 1, none⟩ = some (.int .i64 0) := B0_10.c 1 (of_decide_eq_true rfl)
  have c11_B0_2 : w10.cell? ⟨w.heap.size, 2, none⟩ = some (.int .i64 0) := B0_10.c 2 (of_decide_eq_true rfl)
  have g11_B0_0 := B0_10.f 0 (of_decide_eq_true rfl)
  have g11_B0_1 := B0_10.f 1 (of_decide_eq_true rfl)
  have g11_B0_2 := B0_10.f 2 (of_decide_eq_true rfl)
  go_wp2_with (with_reducible refine post_stop ?_)
  refine Stop.mk ?_
  clear c11_B0_0 c11_B0_1 c11_B0_2 g11_B0_0 g11_B0_1 g11_B0_2
  refine bodyPost_ret (v := .agg #[.int .i64 0, .int .i64 0, .int .i64 0]) (results_arr Try.results8 (((B0_10.put 0 (of_decide_eq_true rfl) (.int .i64 0) [.int .i64 0, .int .i64 0, .int .i64 0] rfl).put 1 (of_decide_eq_true rfl) (.int .i64 0) [.int .i64 0, .int .i64 0, .int .i64 0] rfl).put 2 (of_decide_eq_true rfl) (.int .i64 0) [.int .i64 0, .int .i64 0, .int .i64 0] rfl) rfl (by kernel_rfl) (by kernel_rfl)) rfl ?_
  exact ⟨rfl, (((f10.new w.heap.size 0 (Nat.ne_of_lt y1_BF) (.int .i64 0)).new w.heap.size 1 (Nat.ne_of_lt y1_BF) (.int .i64 0)).new w.heap.size 2 (Nat.ne_of_lt y1_BF) (.int .i64 0)), (((K10.new _ _ (by omega) _).new _ _ (by omega) _).new _ _ (by omega) _)⟩
set_option maxRecDepth 100000 in
set_option maxHeartbeats 2000000 in
theorem sDir_n2 (b : Nat) (t : Int) (w : World) (hw : Fl b true w) :
    Calls Try.prog 8 #[.pointer (some ⟨b, 0, none⟩), .int .i64 t] w fun e w' => e = .returned (.agg #[.int .i64 ((0, 0, 0).1), .int .i64 ((0, 0, 0).2.1), .int .i64 ((0, 0, 0).2.2)]) ∧ Fl b true w' ∧ Kept b w w' := by
  have hl := hw.lies
  go_enter Try.func8, Try.ntmps8
  have y1_BF : b < w.heap.size := hw.lies
  go_wp2_with fail
  refine (cDays_any b true t _ (hw.alloc _)).mono ?_
  rintro e w1 ⟨rfl, f1, k1⟩
  rw [cDaysS_true] at f1 ⊢
  dsimp only at f1 ⊢
  have K1 : Kept b w w1 := Kept.trans ((Kept.refl b w).al _) k1
  have B0_1 : Arr w.heap.size [.int .i64 0, .int .i64 0, .int .i64 0] w1 := (Arr_at _ _ [.int .i64 0, .int .i64 0, .int .i64 0] _ (by simp)).kept k1 (Nat.ne_of_gt y1_BF)
  have z1 := B0_1.lies
  clear k1
  go_wp2_with fail
  refine (along_t b true 0 _ f1 rfl).mono ?_
  rintro e w2 ⟨rfl, f2, k2⟩
  rw [alongS_true] at f2 ⊢
  dsimp only at f2 ⊢
  have K2 : Kept b w w2 := Kept.trans K1 k2
  have B0_2 : Arr w.heap.size [.int .i64 0, .int .i64 0, .int .i64 0] w2 := B0_1.kept k2 (Nat.ne_of_gt y1_BF)
  have z2 := B0_2.lies
  clear K1 f1 B0_1 k2
  go_wp2_with fail
  refine (Mul_any b true 6908 0 _ f2).mono ?_
  rintro e w3 ⟨rfl, f3, k3⟩
  rw [mulS_true] at f3 ⊢
  dsimp only at f3 ⊢
  have K3 : Kept b w w3 := Kept.trans K2 k3
  have B0_3 : Arr w.heap.size [.int .i64 0, .int .i64 0, .int .i64 0] w3 := B0_2.kept k3 (Nat.ne_of_gt y1_BF)
  have z3 := B0_3.lies
  clear K2 f2 B0_2 k3
  go_wp2_with fail
  refine (Sub_any b true 449733620800 0 _ f3).mono ?_
  rintro e w4 ⟨rfl, f4, k4⟩
  rw [subS_true] at f4 ⊢
  dsimp only at f4 ⊢
  have K4 : Kept b w w4 := Kept.trans K3 k4
  have B0_4 : Arr w.heap.size [.int .i64 0, .int .i64 0, .int .i64 0] w4 := B0_3.kept k4 (Nat.ne_of_gt y1_BF)
  have z4 := B0_4.lies
  clear K3 f3 B0_3 k4
  go_wp2_with fail
  refine (Sin_any b true 0 _ f4).mono ?_
  rintro e w5 ⟨rfl, f5, k5⟩
  rw [sinA_true] at f5 ⊢
  dsimp only at f5 ⊢
  have K5 : Kept b w w5 := Kept.trans K4 k5
  have B0_5 : Arr w.heap.size [.int .i64 0, .int .i64 0, .int .i64 0] w5 := B0_4.kept k5 (Nat.ne_of_gt y1_BF)
  have z5 := B0_5.lies
  clear K4 f4 B0_4 k5
  go_wp2_with fail
  refine (Cos_any b true 0 _ f5).mono ?_
  rintro e w6 ⟨rfl, f6, k6⟩
  rw [cosA_true] at f6 ⊢
  dsimp only at f6 ⊢
  have K6 : Kept b w w6 := Kept.trans K5 k6
  have B0_6 : Arr w.heap.size [.int .i64 0, .int .i64 0, .int .i64 0] w6 := B0_5.kept k6 (Nat.ne_of_gt y1_BF)
  have z6 := B0_6.lies
  clear K5 f5 B0_5 k6
  go_wp2_with fail
  refine (Cos_any b true 0 _ f6).mono ?_
  rintro e w7 ⟨rfl, f7, k7⟩
  rw [cosA_true] at f7 ⊢
  dsimp only at f7 ⊢
  have K7 : Kept b w w7 := Kept.trans K6 k7
  have B0_7 : Arr w.heap.size [.int .i64 0, .int .i64 0, .int .i64 0] w7 := B0_6.kept k7 (Nat.ne_of_gt y1_BF)
  have z7 := B0_7.lies
  clear K6 f6 B0_6 k7
  go_wp2_with fail
  refine (Mul_any b true 0 0 _ f7).mono ?_
  rintro e w8 ⟨rfl, f8, k8⟩
  rw [mulS_true] at f8 ⊢
  dsimp only at f8 ⊢
  have K8 : Kept b w w8 := Kept.trans K7 k8
  have B0_8 : Arr w.heap.size [.int .i64 0, .int .i64 0, .int .i64 0] w8 := B0_7.kept k8 (Nat.ne_of_gt y1_BF)
  have z8 := B0_8.lies
  clear K7 f7 B0_7 k8
  go_wp2_with fail
  refine (Sin_any b true 0 _ f8).mono ?_
  rintro e w9 ⟨rfl, f9, k9⟩
  rw [sinA_true] at f9 ⊢
  dsimp only at f9 ⊢
  have K9 : Kept b w w9 := Kept.trans K8 k9
  have B0_9 : Arr w.heap.size [.int .i64 0, .int .i64 0, .int .i64 0] w9 := B0_8.kept k9 (Nat.ne_of_gt y1_BF)
  have z9 := B0_9.lies
  clear K8 f8 B0_8 k9
  go_wp2_with fail
  refine (Mul_any b true 0 0 _ f9).mono ?_
  rintro e w10 ⟨rfl, f10, k10⟩
  rw [mulS_true] at f10 ⊢
  dsimp only at f10 ⊢
  have K10 : Kept b w w10 := Kept.trans K9 k10
  have B0_10 : Arr w.heap.size [.int .i64 0, .int .i64 0, .int .i64 0] w10 := B0_9.kept k10 (Nat.ne_of_gt y1_BF)
  have z10 := B0_10.lies
  clear K9 f9 B0_9 k10
  have c11_B0_0 : w10.cell? ⟨w.heap.size, 0, none⟩ = some (.int .i64 0) := B0_10.c 0 (of_decide_eq_true rfl)
  have c11_B0_1 : w10.cell? ⟨w.heap.size, 1, none⟩ = some (.int .i64 0) := B0_10.c 1 (of_decide_eq_true rfl)
  have c11_B0_2 : w10.cell? ⟨w.heap.size, 2, none⟩ = some (.int .i64 0) := B0_10.c 2 (of_decide_eq_true rfl)
  have g11_B0_0 := B0_10.f 0 (of_decide_eq_true rfl)
  have g11_B0_1 := B0_10.f 1 (of_decide_eq_true rfl)
  have g11_B0_2 := B0_10.f 2 (of_decide_eq_true rfl)
  go_wp2_with (with_reducible refine post_stop ?_)
  refine Stop.mk ?_
  clear c11_B0_0 c11_B0_1 c11_B0_2 g11_B0_0 g11_B0_1 g11_B0_2
  refine bodyPost_ret (v := .agg #[.int .i64 0, .int .i64 0, .int .i64 0]) (results_arr Try.results8 (((B0_10.put 0 (of_decide_eq_true rfl) (.int .i64 0) [.int .i64 0, .int .i64 0, .int .i64 0] rfl).put 1 (of_decide_eq_true rfl) (.int .i64 0) [.int .i64 0, .int .i64 0, .int .i64 0] rfl).put 2 (of_decide_eq_true rfl) (.int .i64 0) [.int .i64 0, .int .i64 0, .int .i64 0] rfl) rfl (by kernel_rfl) (by kernel_rfl)) rfl ?_
  exact ⟨rfl, (((f10.new w.heap.size 0 (Nat.ne_of_lt y1_BF) (.int .i64 0)).new w.heap.size 1 (Nat.ne_of_lt y1_BF) (.int .i64 0)).new w.heap.size 2 (Nat.ne_of_lt y1_BF) (.int .i64 0)), (((K10.new _ _ (by omega) _).new _ _ (by omega) _).new _ _ (by omega) _)⟩
set_option maxRecDepth 100000 in
set_option maxHeartbeats 2000000 in
theorem sDir_good (b : Nat) (t : Int) (w : World) (hw : Fl b false w) (d : Int) (hd : cDaysS false t = (d, false)) (Q : SunS d) :
    Calls Try.prog 8 #[.pointer (some ⟨b, 0, none⟩), .int .i64 t] w fun e w' => e = .returned (.agg #[.int .i64 ((Q.cl, Q.Y, Q.Z).1), .int .i64 ((Q.cl, Q.Y, Q.Z).2.1), .int .i64 ((Q.cl, Q.Y, Q.Z).2.2)]) ∧ Fl b false w' ∧ Kept b w w' := by
  have hl := hw.lies
  go_enter Try.func8, Try.ntmps8
  have y1_BF : b < w.heap.size := hw.lies
  go_wp2_with fail
  refine (cDays_any b false t _ (hw.alloc _)).mono ?_
  rintro e w1 ⟨rfl, f1, k1⟩
  rw [hd] at f1 ⊢
  dsimp only at f1 ⊢
  have K1 : Kept b w w1 := Kept.trans ((Kept.refl b w).al _) k1
  have B0_1 : Arr w.heap.size [.int .i64 0, .int .i64 0, .int .i64 0] w1 := (Arr_at _ _ [.int .i64 0, .int .i64 0, .int .i64 0] _ (by simp)).kept k1 (Nat.ne_of_gt y1_BF)
  have z1 := B0_1.lies
  clear k1
  go_wp2_with fail
  refine (along_g b false d _ f1 rfl Q).mono ?_
  rintro e w2 ⟨rfl, f2, k2⟩
  rw [(along_good Q)] at f2 ⊢
  dsimp only at f2 ⊢
  have K2 : Kept b w w2 := Kept.trans K1 k2
  have B0_2 : Arr w.heap.size [.int .i64 0, .int .i64 0, .int .i64 0] w2 := B0_1.kept k2 (Nat.ne_of_gt y1_BF)
  have z2 := B0_2.lies
  clear K1 f1 B0_1 k2
  go_wp2_with fail
  refine (Mul_any b false 6908 d _ f2).mono ?_
  rintro e w3 ⟨rfl, f3, k3⟩
  rw [Q.he1] at f3 ⊢
  dsimp only at f3 ⊢
  have K3 : Kept b w w3 := Kept.trans K2 k3
  have B0_3 : Arr w.heap.size [.int .i64 0, .int .i64 0, .int .i64 0] w3 := B0_2.kept k3 (Nat.ne_of_gt y1_BF)
  have z3 := B0_3.lies
  clear K2 f2 B0_2 k3
  go_wp2_with fail
  refine (Sub_any b false 449733620800 Q.e1 _ f3).mono ?_
  rintro e w4 ⟨rfl, f4, k4⟩
  rw [Q.he] at f4 ⊢
  dsimp only at f4 ⊢
  have K4 : Kept b w w4 := Kept.trans K3 k4
  have B0_4 : Arr w.heap.size [.int .i64 0, .int .i64 0, .int .i64 0] w4 := B0_3.kept k4 (Nat.ne_of_gt y1_BF)
  have z4 := B0_4.lies
  clear K3 f3 B0_3 k4
  go_wp2_with fail
  refine (Sin_any b false (((5399914965875 + Q.q1) % 6908435304716) + Q.a + Q.b) _ f4).mono ?_
  rintro e w5 ⟨rfl, f5, k5⟩
  rw [Q.hsl] at f5 ⊢
  dsimp only at f5 ⊢
  have K5 : Kept b w w5 := Kept.trans K4 k5
  have B0_5 : Arr w.heap.size [.int .i64 0, .int .i64 0, .int .i64 0] w5 := B0_4.kept k5 (Nat.ne_of_gt y1_BF)
  have z5 := B0_5.lies
  clear K4 f4 B0_4 k5
  go_wp2_with fail
  refine (Cos_any b false (((5399914965875 + Q.q1) % 6908435304716) + Q.a + Q.b) _ f5).mono ?_
  rintro e w6 ⟨rfl, f6, k6⟩
  rw [Q.hcl] at f6 ⊢
  dsimp only at f6 ⊢
  have K6 : Kept b w w6 := Kept.trans K5 k6
  have B0_6 : Arr w.heap.size [.int .i64 0, .int .i64 0, .int .i64 0] w6 := B0_5.kept k6 (Nat.ne_of_gt y1_BF)
  have z6 := B0_6.lies
  clear K5 f5 B0_5 k6
  go_wp2_with fail
  refine (Cos_any b false (449733620800 - Q.e1) _ f6).mono ?_
  rintro e w7 ⟨rfl, f7, k7⟩
  rw [Q.hce] at f7 ⊢
  dsimp only at f7 ⊢
  have K7 : Kept b w w7 := Kept.trans K6 k7
  have B0_7 : Arr w.heap.size [.int .i64 0, .int .i64 0, .int .i64 0] w7 := B0_6.kept k7 (Nat.ne_of_gt y1_BF)
  have z7 := B0_7.lies
  clear K6 f6 B0_6 k7
  go_wp2_with fail
  refine (Mul_any b false Q.ce Q.sl _ f7).mono ?_
  rintro e w8 ⟨rfl, f8, k8⟩
  rw [Q.hY] at f8 ⊢
  dsimp only at f8 ⊢
  have K8 : Kept b w w8 := Kept.trans K7 k8
  have B0_8 : Arr w.heap.size [.int .i64 0, .int .i64 0, .int .i64 0] w8 := B0_7.kept k8 (Nat.ne_of_gt y1_BF)
  have z8 := B0_8.lies
  clear K7 f7 B0_7 k8
  go_wp2_with fail
  refine (Sin_any b false (449733620800 - Q.e1) _ f8).mono ?_
  rintro e w9 ⟨rfl, f9, k9⟩
  rw [Q.hse] at f9 ⊢
  dsimp only at f9 ⊢
  have K9 : Kept b w w9 := Kept.trans K8 k9
  have B0_9 : Arr w.heap.size [.int .i64 0, .int .i64 0, .int .i64 0] w9 := B0_8.kept k9 (Nat.ne_of_gt y1_BF)
  have z9 := B0_9.lies
  clear K8 f8 B0_8 k9
  go_wp2_with fail
  refine (Mul_any b false Q.se Q.sl _ f9).mono ?_
  rintro e w10 ⟨rfl, f10, k10⟩
  rw [Q.hZ] at f10 ⊢
  dsimp only at f10 ⊢
  have K10 : Kept b w w10 := Kept.trans K9 k10
  have B0_10 : Arr w.heap.size [.int .i64 0, .int .i64 0, .int .i64 0] w10 := B0_9.kept k10 (Nat.ne_of_gt y1_BF)
  have z10 := B0_10.lies
  clear K9 f9 B0_9 k10
  have c11_B0_0 : w10.cell? ⟨w.heap.size, 0, none⟩ = some (.int .i64 0) := B0_10.c 0 (of_decide_eq_true rfl)
  have c11_B0_1 : w10.cell? ⟨w.heap.size, 1, none⟩ = some (.int .i64 0) := B0_10.c 1 (of_decide_eq_true rfl)
  have c11_B0_2 : w10.cell? ⟨w.heap.size, 2, none⟩ = some (.int .i64 0) := B0_10.c 2 (of_decide_eq_true rfl)
  have g11_B0_0 := B0_10.f 0 (of_decide_eq_true rfl)
  have g11_B0_1 := B0_10.f 1 (of_decide_eq_true rfl)
  have g11_B0_2 := B0_10.f 2 (of_decide_eq_true rfl)
  go_wp2_with (with_reducible refine post_stop ?_)
  refine Stop.mk ?_
  clear c11_B0_0 c11_B0_1 c11_B0_2 g11_B0_0 g11_B0_1 g11_B0_2
  refine bodyPost_ret (v := .agg #[.int .i64 Q.cl, .int .i64 Q.Y, .int .i64 Q.Z]) (results_arr Try.results8 (((B0_10.put 0 (of_decide_eq_true rfl) (.int .i64 Q.cl) [.int .i64 Q.cl, .int .i64 0, .int .i64 0] rfl).put 1 (of_decide_eq_true rfl) (.int .i64 Q.Y) [.int .i64 Q.cl, .int .i64 Q.Y, .int .i64 0] rfl).put 2 (of_decide_eq_true rfl) (.int .i64 Q.Z) [.int .i64 Q.cl, .int .i64 Q.Y, .int .i64 Q.Z] rfl) rfl (by kernel_rfl) (by kernel_rfl)) rfl ?_
  exact ⟨rfl, (((f10.new w.heap.size 0 (Nat.ne_of_lt y1_BF) (.int .i64 Q.cl)).new w.heap.size 1 (Nat.ne_of_lt y1_BF) (.int .i64 Q.Y)).new w.heap.size 2 (Nat.ne_of_lt y1_BF) (.int .i64 Q.Z)), (((K10.new _ _ (by omega) _).new _ _ (by omega) _).new _ _ (by omega) _)⟩
theorem sDir_any (b : Nat) (bad : Bool) (t : Int) (w : World) (hw : Fl b bad w) :
    Calls Try.prog 8 #[.pointer (some ⟨b, 0, none⟩), .int .i64 t] w fun e w' => e = .returned (.agg #[.int .i64 ((dirS bad t).1.1), .int .i64 ((dirS bad t).1.2.1), .int .i64 ((dirS bad t).1.2.2)]) ∧ Fl b (dirS bad t).2 w' ∧ Kept b w w' := by
  rcases dirS_cases bad t with ⟨hn, e⟩ | ⟨hb, e⟩ | ⟨hb, ⟨L⟩⟩
  · rw [e]; exact sDir_n1 b bad t w hw hn
  · subst hb; rw [e]; exact sDir_n2 b t w hw
  · subst hb; rw [L.e]; exact sDir_good b t w hw L.d L.hd L.Q
end Go.Proofs.Ytnfaafdoefpomaa
