/-
  The walk of the reference's Place, for the seat Ytmjkmbhaemencaa. (Made by mkorbit.py.)
-/
import Derived.Test.YtmjkmbhaemencaaORRight
import Derived.Test.YtmjkmbhaemencaaORKep
import Derived.Test.YtmjkmbhaemencaaRRoot
import Derived.Test.YtmjkmbhaemencaaStop
import Derived.Handy
import Derived.Deep.RegionHeld3
namespace Go.Proofs.Ytmjkmbhaemencaa
open Go.RowKit

set_option maxRecDepth 100000 in
set_option maxHeartbeats 2000000 in
theorem pPlace_n1 (b : Nat) (bad : Bool) (o : V7) (t : Int) (w : World) (hw : Fl b bad w) (hr : oRightC o = false) :
    Calls Try.prog 15 #[.pointer (some ⟨b, 0, none⟩), .agg #[.int .i64 o.1, .int .i64 o.2.1, .int .i64 o.2.2.1, .int .i64 o.2.2.2.1, .int .i64 o.2.2.2.2.1, .int .i64 o.2.2.2.2.2.1, .int .i64 o.2.2.2.2.2.2], .int .i64 t] w fun e w' => e = .returned (.agg #[.int .i64 ((0, 0, 0).1), .int .i64 ((0, 0, 0).2.1), .int .i64 ((0, 0, 0).2.2)]) ∧ Fl b true w' ∧ Kept b w w' := by
  have hl := hw.lies
  go_enter Try.func15, Try.ntmps15
  have y1_BF : b < w.heap.size := hw.lies
  have y2_BF : b < w.heap.size + 1 := (Nat.lt_succ_of_lt hw.lies)
  have y2_B0 : w.heap.size < w.heap.size + 1 := (Nat.lt_succ_self _)
  go_wp2_with fail
  refine (pRight_any o _).mono ?_
  rintro e w1 ⟨rfl, k1⟩
  rw [hr]
  try dsimp only
  have K1 : Kept b w w1 := Kept.trans (((Kept.refl b w).al _).al _) (Kept.of_below k1)
  have BF_1 : Fl b bad w1 := ((hw.alloc _).alloc _).below k1
  have B0_1 : Arr w.heap.size [.int .i64 o.1, .int .i64 o.2.1, .int .i64 o.2.2.1, .int .i64 o.2.2.2.1, .int .i64 o.2.2.2.2.1, .int .i64 o.2.2.2.2.2.1, .int .i64 o.2.2.2.2.2.2] w1 := ((Arr_at _ _ [.int .i64 o.1, .int .i64 o.2.1, .int .i64 o.2.2.1, .int .i64 o.2.2.2.1, .int .i64 o.2.2.2.2.1, .int .i64 o.2.2.2.2.2.1, .int .i64 o.2.2.2.2.2.2] _ (by simp)).alloc _).below k1
  have B1_1 : Arr (w.heap.size + 1) [.int .i64 0, .int .i64 0, .int .i64 0] w1 := (Arr_at _ _ [.int .i64 0, .int .i64 0, .int .i64 0] _ (by simp)).below k1
  have z1 := B1_1.lies
  clear k1
  go_wp2_with fail
  refine (rFail_any b bad  _ BF_1).mono ?_
  rintro e w2 ⟨rfl, f2, k2⟩
  have K2 : Kept b w w2 := Kept.trans K1 k2
  have B0_2 : Arr w.heap.size [.int .i64 o.1, .int .i64 o.2.1, .int .i64 o.2.2.1, .int .i64 o.2.2.2.1, .int .i64 o.2.2.2.2.1, .int .i64 o.2.2.2.2.2.1, .int .i64 o.2.2.2.2.2.2] w2 := B0_1.kept k2 (Nat.ne_of_gt y1_BF)
  have B1_2 : Arr (w.heap.size + 1) [.int .i64 0, .int .i64 0, .int .i64 0] w2 := B1_1.kept k2 (Nat.ne_of_gt y2_BF)
  have z2 := B1_2.lies
  clear K1 BF_1 B0_1 B1_1 k2
  have c3_B1_0 : w2.cell? ⟨w.heap.size + 1, 0, none⟩ = some (.int .i64 0) := B1_2.c 0 (of_decide_eq_true rfl)
  have c3_B1_1 : w2.cell? ⟨w.heap.size + 1, 1, none⟩ = some (.int .i64 0) := B1_2.c 1 (of_decide_eq_true rfl)
  have c3_B1_2 : w2.cell? ⟨w.heap.size + 1, 2, none⟩ = some (.int .i64 0) := B1_2.c 2 (of_decide_eq_true rfl)
  have c3_BF := f2.cell
  have g3_B1_0 := B1_2.f 0 (of_decide_eq_true rfl)
  have g3_B1_1 := B1_2.f 1 (of_decide_eq_true rfl)
  have g3_B1_2 := B1_2.f 2 (of_decide_eq_true rfl)
  go_wp2_with (with_reducible refine post_stop ?_)
  refine Stop.mk ?_
  clear c3_B1_0 c3_B1_1 c3_B1_2 c3_BF g3_B1_0 g3_B1_1 g3_B1_2
  refine bodyPost_ret (v := .agg #[.int .i64 0, .int .i64 0, .int .i64 0]) (results_arr Try.results15 (((B1_2.put 0 (of_decide_eq_true rfl) (.int .i64 0) [.int .i64 0, .int .i64 0, .int .i64 0] rfl).put 1 (of_decide_eq_true rfl) (.int .i64 0) [.int .i64 0, .int .i64 0, .int .i64 0] rfl).put 2 (of_decide_eq_true rfl) (.int .i64 0) [.int .i64 0, .int .i64 0, .int .i64 0] rfl) rfl (by kernel_rfl) (by kernel_rfl)) rfl ?_
  exact ⟨rfl, (((f2.new (w.heap.size + 1) 0 (Nat.ne_of_lt y2_BF) (.int .i64 0)).new (w.heap.size + 1) 1 (Nat.ne_of_lt y2_BF) (.int .i64 0)).new (w.heap.size + 1) 2 (Nat.ne_of_lt y2_BF) (.int .i64 0)), (((K2.new _ _ (by omega) _).new _ _ (by omega) _).new _ _ (by omega) _)⟩
set_option maxRecDepth 100000 in
set_option maxHeartbeats 2000000 in
theorem pPlace_n2 (b : Nat) (bad : Bool) (o : V7) (t : Int) (w : World) (hw : Fl b bad w) (hr : oRightC o = true) (ht : cRight t = false) :
    Calls Try.prog 15 #[.pointer (some ⟨b, 0, none⟩), .agg #[.int .i64 o.1, .int .i64 o.2.1, .int .i64 o.2.2.1, .int .i64 o.2.2.2.1, .int .i64 o.2.2.2.2.1, .int .i64 o.2.2.2.2.2.1, .int .i64 o.2.2.2.2.2.2], .int .i64 t] w fun e w' => e = .returned (.agg #[.int .i64 ((0, 0, 0).1), .int .i64 ((0, 0, 0).2.1), .int .i64 ((0, 0, 0).2.2)]) ∧ Fl b true w' ∧ Kept b w w' := by
  have hl := hw.lies
  go_enter Try.func15, Try.ntmps15
  have y1_BF : b < w.heap.size := hw.lies
  have y2_BF : b < w.heap.size + 1 := (Nat.lt_succ_of_lt hw.lies)
  have y2_B0 : w.heap.size < w.heap.size + 1 := (Nat.lt_succ_self _)
  go_wp2_with fail
  refine (pRight_any o _).mono ?_
  rintro e w1 ⟨rfl, k1⟩
  rw [hr]
  try dsimp only
  have K1 : Kept b w w1 := Kept.trans (((Kept.refl b w).al _).al _) (Kept.of_below k1)
  have BF_1 : Fl b bad w1 := ((hw.alloc _).alloc _).below k1
  have B0_1 : Arr w.heap.size [.int .i64 o.1, .int .i64 o.2.1, .int .i64 o.2.2.1, .int .i64 o.2.2.2.1, .int .i64 o.2.2.2.2.1, .int .i64 o.2.2.2.2.2.1, .int .i64 o.2.2.2.2.2.2] w1 := ((Arr_at _ _ [.int .i64 o.1, .int .i64 o.2.1, .int .i64 o.2.2.1, .int .i64 o.2.2.2.1, .int .i64 o.2.2.2.2.1, .int .i64 o.2.2.2.2.2.1, .int .i64 o.2.2.2.2.2.2] _ (by simp)).alloc _).below k1
  have B1_1 : Arr (w.heap.size + 1) [.int .i64 0, .int .i64 0, .int .i64 0] w1 := (Arr_at _ _ [.int .i64 0, .int .i64 0, .int .i64 0] _ (by simp)).below k1
  have z1 := B1_1.lies
  clear k1
  go_wp2_with fail
  refine (dRight_any t _).mono ?_
  rintro e w2 ⟨rfl, k2⟩
  rw [ht]
  try dsimp only
  have K2 : Kept b w w2 := Kept.trans K1 (Kept.of_below k2)
  have BF_2 : Fl b bad w2 := BF_1.below k2
  have B0_2 : Arr w.heap.size [.int .i64 o.1, .int .i64 o.2.1, .int .i64 o.2.2.1, .int .i64 o.2.2.2.1, .int .i64 o.2.2.2.2.1, .int .i64 o.2.2.2.2.2.1, .int .i64 o.2.2.2.2.2.2] w2 := B0_1.below k2
  have B1_2 : Arr (w.heap.size + 1) [.int .i64 0, .int .i64 0, .int .i64 0] w2 := B1_1.below k2
  have z2 := B1_2.lies
  clear K1 BF_1 B0_1 B1_1 k2
  go_wp2_with fail
  refine (rFail_any b bad  _ BF_2).mono ?_
  rintro e w3 ⟨rfl, f3, k3⟩
  have K3 : Kept b w w3 := Kept.trans K2 k3
  have B0_3 : Arr w.heap.size [.int .i64 o.1, .int .i64 o.2.1, .int .i64 o.2.2.1, .int .i64 o.2.2.2.1, .int .i64 o.2.2.2.2.1, .int .i64 o.2.2.2.2.2.1, .int .i64 o.2.2.2.2.2.2] w3 := B0_2.kept k3 (Nat.ne_of_gt y1_BF)
  have B1_3 : Arr (w.heap.size + 1) [.int .i64 0, .int .i64 0, .int .i64 0] w3 := B1_2.kept k3 (Nat.ne_of_gt y2_BF)
  have z3 := B1_3.lies
  clear K2 BF_2 B0_2 B1_2 k3
  have c4_B1_0 : w3.cell? ⟨w.heap.size + 1, 0, none⟩ = some (.int .i64 0) := B1_3.c 0 (of_decide_eq_true rfl)
  have c4_B1_1 : w3.cell? ⟨w.heap.size + 1, 1, none⟩ = some (.int .i64 0) := B1_3.c 1 (of_decide_eq_true rfl)
  have c4_B1_2 : w3.cell? ⟨w.heap.size + 1, 2, none⟩ = some (.int .i64 0) := B1_3.c 2 (of_decide_eq_true rfl)
  have c4_BF := f3.cell
  have g4_B1_0 := B1_3.f 0 (of_decide_eq_true rfl)
  have g4_B1_1 := B1_3.f 1 (of_decide_eq_true rfl)
  have g4_B1_2 := B1_3.f 2 (of_decide_eq_true rfl)
  go_wp2_with (with_reducible refine post_stop ?_)
  refine Stop.mk ?_
  clear c4_B1_0 c4_B1_1 c4_B1_2 c4_BF g4_B1_0 g4_B1_1 g4_B1_2
  refine bodyPost_ret (v := .agg #[.int .i64 0, .int .i64 0, .int .i64 0]) (results_arr Try.results15 (((B1_3.put 0 (of_decide_eq_true rfl) (.int .i64 0) [.int .i64 0, .int .i64 0, .int .i64 0] rfl).put 1 (of_decide_eq_true rfl) (.int .i64 0) [.int .i64 0, .int .i64 0, .int .i64 0] rfl).put 2 (of_decide_eq_true rfl) (.int .i64 0) [.int .i64 0, .int .i64 0, .int .i64 0] rfl) rfl (by kernel_rfl) (by kernel_rfl)) rfl ?_
  exact ⟨rfl, (((f3.new (w.heap.size + 1) 0 (Nat.ne_of_lt y2_BF) (.int .i64 0)).new (w.heap.size + 1) 1 (Nat.ne_of_lt y2_BF) (.int .i64 0)).new (w.heap.size + 1) 2 (Nat.ne_of_lt y2_BF) (.int .i64 0)), (((K3.new _ _ (by omega) _).new _ _ (by omega) _).new _ _ (by omega) _)⟩
set_option maxRecDepth 100000 in
set_option maxHeartbeats 2000000 in
theorem pPlace_bad (b : Nat) (o : V7) (t : Int) (w : World) (hw : Fl b true w) (hr : oRightC o = true) (ht : cRight t = true) :
    Calls Try.prog 15 #[.pointer (some ⟨b, 0, none⟩), .agg #[.int .i64 o.1, .int .i64 o.2.1, .int .i64 o.2.2.1, .int .i64 o.2.2.2.1, .int .i64 o.2.2.2.2.1, .int .i64 o.2.2.2.2.2.1, .int .i64 o.2.2.2.2.2.2], .int .i64 t] w fun e w' => e = .returned (.agg #[.int .i64 ((0, 0, 0).1), .int .i64 ((0, 0, 0).2.1), .int .i64 ((0, 0, 0).2.2)]) ∧ Fl b true w' ∧ Kept b w w' := by
  have hl := hw.lies
  go_enter Try.func15, Try.ntmps15
  have y1_BF : b < w.heap.size := hw.lies
  have y2_BF : b < w.heap.size + 1 := (Nat.lt_succ_of_lt hw.lies)
  have y2_B0 : w.heap.size < w.heap.size + 1 := (Nat.lt_succ_self _)
  go_wp2_with fail
  refine (pRight_any o _).mono ?_
  rintro e w1 ⟨rfl, k1⟩
  rw [hr]
  try dsimp only
  have K1 : Kept b w w1 := Kept.trans (((Kept.refl b w).al _).al _) (Kept.of_below k1)
  have BF_1 : Fl b true w1 := ((hw.alloc _).alloc _).below k1
  have B0_1 : Arr w.heap.size [.int .i64 o.1, .int .i64 o.2.1, .int .i64 o.2.2.1, .int .i64 o.2.2.2.1, .int .i64 o.2.2.2.2.1, .int .i64 o.2.2.2.2.2.1, .int .i64 o.2.2.2.2.2.2] w1 := ((Arr_at _ _ [.int .i64 o.1, .int .i64 o.2.1, .int .i64 o.2.2.1, .int .i64 o.2.2.2.1, .int .i64 o.2.2.2.2.1, .int .i64 o.2.2.2.2.2.1, .int .i64 o.2.2.2.2.2.2] _ (by simp)).alloc _).below k1
  have B1_1 : Arr (w.heap.size + 1) [.int .i64 0, .int .i64 0, .int .i64 0] w1 := (Arr_at _ _ [.int .i64 0, .int .i64 0, .int .i64 0] _ (by simp)).below k1
  have z1 := B1_1.lies
  clear k1
  go_wp2_with fail
  refine (dRight_any t _).mono ?_
  rintro e w2 ⟨rfl, k2⟩
  rw [ht]
  try dsimp only
  have K2 : Kept b w w2 := Kept.trans K1 (Kept.of_below k2)
  have BF_2 : Fl b true w2 := BF_1.below k2
  have B0_2 : Arr w.heap.size [.int .i64 o.1, .int .i64 o.2.1, .int .i64 o.2.2.1, .int .i64 o.2.2.2.1, .int .i64 o.2.2.2.2.1, .int .i64 o.2.2.2.2.2.1, .int .i64 o.2.2.2.2.2.2] w2 := B0_1.below k2
  have B1_2 : Arr (w.heap.size + 1) [.int .i64 0, .int .i64 0, .int .i64 0] w2 := B1_1.below k2
  have z2 := B1_2.lies
  clear K1 BF_1 B0_1 B1_1 k2
  have c3_B1_0 : w2.cell? ⟨w.heap.size + 1, 0, none⟩ = some (.int .i64 0) := B1_2.c 0 (of_decide_eq_true rfl)
  have c3_B1_1 : w2.cell? ⟨w.heap.size + 1, 1, none⟩ = some (.int .i64 0) := B1_2.c 1 (of_decide_eq_true rfl)
  have c3_B1_2 : w2.cell? ⟨w.heap.size + 1, 2, none⟩ = some (.int .i64 0) := B1_2.c 2 (of_decide_eq_true rfl)
  have c3_BF := BF_2.cell
  have g3_B1_0 := B1_2.f 0 (of_decide_eq_true rfl)
  have g3_B1_1 := B1_2.f 1 (of_decide_eq_true rfl)
  have g3_B1_2 := B1_2.f 2 (of_decide_eq_true rfl)
  go_wp2_with (with_reducible refine post_stop ?_)
  refine Stop.mk ?_
  clear c3_B1_0 c3_B1_1 c3_B1_2 c3_BF g3_B1_0 g3_B1_1 g3_B1_2
  refine bodyPost_ret (v := .agg #[.int .i64 0, .int .i64 0, .int .i64 0]) (results_arr Try.results15 (((B1_2.put 0 (of_decide_eq_true rfl) (.int .i64 0) [.int .i64 0, .int .i64 0, .int .i64 0] rfl).put 1 (of_decide_eq_true rfl) (.int .i64 0) [.int .i64 0, .int .i64 0, .int .i64 0] rfl).put 2 (of_decide_eq_true rfl) (.int .i64 0) [.int .i64 0, .int .i64 0, .int .i64 0] rfl) rfl (by kernel_rfl) (by kernel_rfl)) rfl ?_
  exact ⟨rfl, (((BF_2.new (w.heap.size + 1) 0 (Nat.ne_of_lt y2_BF) (.int .i64 0)).new (w.heap.size + 1) 1 (Nat.ne_of_lt y2_BF) (.int .i64 0)).new (w.heap.size + 1) 2 (Nat.ne_of_lt y2_BF) (.int .i64 0)), (((K2.new _ _ (by omega) _).new _ _ (by omega) _).new _ _ (by omega) _)⟩
set_option maxRecDepth 100000 in
set_option maxHeartbeats 2000000 in
theorem pPlace_good (b : Nat) (o : V7) (t : Int) (w : World) (hw : Fl b false w) (hr : oRightC o = true) (ht : cRight t = true) (dt da : Int) (hdt : cDaysS false t = (dt, false)) (hda : cDaysS false o.2.2.2.2.2.2 = (da, false)) (hd : subS false dt da = (dt - da, false)) (G : Angles o.1 o.2.1 o.2.2.1 o.2.2.2.1 o.2.2.2.2.1 o.2.2.2.2.2.1 (dt - da)) (x : Int) (hx : oKepC false ((o.2.2.2.2.2.1 + G.mm) % 6908435304716) o.2.1 = (x, false)) (Q : Plane o.1 o.2.1 G.e2 G.r G.s G.c (o.2.2.2.1 - G.kcd) (o.2.2.2.2.1 + G.kyd) x) :
    Calls Try.prog 15 #[.pointer (some ⟨b, 0, none⟩), .agg #[.int .i64 o.1, .int .i64 o.2.1, .int .i64 o.2.2.1, .int .i64 o.2.2.2.1, .int .i64 o.2.2.2.2.1, .int .i64 o.2.2.2.2.2.1, .int .i64 o.2.2.2.2.2.2], .int .i64 t] w fun e w' => e = .returned (.agg #[.int .i64 (((Q.m5 - Q.m6), (Q.m7 + Q.m8), Q.z).1), .int .i64 (((Q.m5 - Q.m6), (Q.m7 + Q.m8), Q.z).2.1), .int .i64 (((Q.m5 - Q.m6), (Q.m7 + Q.m8), Q.z).2.2)]) ∧ Fl b false w' ∧ Kept b w w' := by
  have hl := hw.lies
  go_enter Try.func15, Try.ntmps15
  have y1_BF : b < w.heap.size := hw.lies
  have y2_BF : b < w.heap.size + 1 := (Nat.lt_succ_of_lt hw.lies)
  have y2_B0 : w.heap.size < w.heap.size + 1 := (Nat.lt_succ_self _)
  go_wp2_with fail
  refine (pRight_any o _).mono ?_
  rintro e w1 ⟨rfl, k1⟩
  rw [hr]
  try dsimp only
  have K1 : Kept b w w1 := Kept.trans (((Kept.refl b w).al _).al _) (Kept.of_below k1)
  have BF_1 : Fl b false w1 := ((hw.alloc _).alloc _).below k1
  have B0_1 : Arr w.heap.size [.int .i64 o.1, .int .i64 o.2.1, .int .i64 o.2.2.1, .int .i64 o.2.2.2.1, .int .i64 o.2.2.2.2.1, .int .i64 o.2.2.2.2.2.1, .int .i64 o.2.2.2.2.2.2] w1 := ((Arr_at _ _ [.int .i64 o.1, .int .i64 o.2.1, .int .i64 o.2.2.1, .int .i64 o.2.2.2.1, .int .i64 o.2.2.2.2.1, .int .i64 o.2.2.2.2.2.1, .int .i64 o.2.2.2.2.2.2] _ (by simp)).alloc _).below k1
  have B1_1 : Arr (w.heap.size + 1) [.int .i64 0, .int .i64 0, .int .i64 0] w1 := (Arr_at _ _ [.int .i64 0, .int .i64 0, .int .i64 0] _ (by simp)).below k1
  have z1 := B1_1.lies
  clear k1
  go_wp2_with fail
  refine (dRight_any t _).mono ?_
  rintro e w2 ⟨rfl, k2⟩
  rw [ht]
  try dsimp only
  have K2 : Kept b w w2 := Kept.trans K1 (Kept.of_below k2)
  have BF_2 : Fl b false w2 := BF_1.below k2
  have B0_2 : Arr w.heap.size [.int .i64 o.1, .int .i64 o.2.1, .int .i64 o.2.2.1, .int .i64 o.2.2.2.1, .int .i64 o.2.2.2.2.1, .int .i64 o.2.2.2.2.2.1, .int .i64 o.2.2.2.2.2.2] w2 := B0_1.below k2
  have B1_2 : Arr (w.heap.size + 1) [.int .i64 0, .int .i64 0, .int .i64 0] w2 := B1_1.below k2
  have z2 := B1_2.lies
  clear K1 BF_1 B0_1 B1_1 k2
  have c3_BF := BF_2.cell
  go_wp2_with fail
  clear c3_BF
  refine wp_region_held_drew (S := fun w' => Arr w.heap.size [.int .i64 o.1, .int .i64 o.2.1, .int .i64 o.2.2.1, .int .i64 o.2.2.2.1, .int .i64 o.2.2.2.2.1, .int .i64 o.2.2.2.2.2.1, .int .i64 o.2.2.2.2.2.2] w') (by kernel_rfl) B0_2.drew (fun hHeld => ?_)
  refine take_at (i := 0) (v := ?v1) rfl (by kernel_rfl) (by kernel_rfl) (by kernel_rfl) (fun _ _ _ h => h) (Or.inl ⟨by rfl, ?y1⟩) hHeld ?t1
  case y1 => (intro wx hSw; go_simp <;> with_reducible rfl)
  simp only [Act.put, List.setIfInBounds_toArray, List.set_cons_zero, List.set_cons_succ]
  refine take_at (i := 1) (v := ?v2) rfl (by kernel_rfl) (by kernel_rfl) (by kernel_rfl) (fun _ _ _ h => h) (Or.inl ⟨by rfl, ?y2⟩) hHeld ?t2
  case y2 => (intro wx hSw; go_simp <;> with_reducible rfl)
  simp only [Act.put, List.setIfInBounds_toArray, List.set_cons_zero, List.set_cons_succ]
  refine take_at (i := 2) (v := ?v3) rfl (by kernel_rfl) (by kernel_rfl) (by kernel_rfl) (fun _ _ _ h => h) (Or.inl ⟨by rfl, ?y3⟩) hHeld ?t3
  case y3 => (intro wx hSw; go_simp <;> with_reducible rfl)
  simp only [Act.put, List.setIfInBounds_toArray, List.set_cons_zero, List.set_cons_succ]
  refine take_at (i := 4) (v := ?v4) rfl (by kernel_rfl) (by kernel_rfl) (by kernel_rfl) (fun _ _ _ h => h) (Or.inl ⟨by rfl, ?y4⟩) hHeld ?t4
  case y4 => (intro wx hSw; go_simp <;> with_reducible rfl)
  simp only [Act.put, List.setIfInBounds_toArray, List.set_cons_zero, List.set_cons_succ]
  refine take_at (i := 5) (v := ?v5) rfl (by kernel_rfl) (by kernel_rfl) (by kernel_rfl) (fun _ _ _ h => h) (Or.inl ⟨by rfl, ?y5⟩) hHeld ?t5
  case y5 => (intro wx hSw; go_simp <;> with_reducible rfl)
  simp only [Act.put, List.setIfInBounds_toArray, List.set_cons_zero, List.set_cons_succ]
  refine take_at (i := 6) (v := ?v6) rfl (by kernel_rfl) (by kernel_rfl) (by kernel_rfl) (fun _ _ _ h => h) (Or.inl ⟨by rfl, ?y6⟩) hHeld ?t6
  case y6 => (intro wx hSw; have hc6 : wx.cell? ⟨w.heap.size, 6, none⟩ = some (.int .i64 o.2.2.2.2.2.2) := hSw.c 6 (of_decide_eq_true rfl); go_simp <;> with_reducible rfl)
  simp only [Act.put, List.setIfInBounds_toArray, List.set_cons_zero, List.set_cons_succ]
  refine call_at (i := 3) (by kernel_rfl) rfl (fun K hK => ?_)
  go_simp
  refine (dDays_any b false t _ BF_2.drew).mono ?_
  rintro e w3 ⟨rfl, f3, k3⟩
  rw [hdt] at f3 ⊢
  dsimp only at f3 ⊢
  have K3 : Kept b w w3 := Kept.trans K2.drew k3
  have B0_3 : Arr w.heap.size [.int .i64 o.1, .int .i64 o.2.1, .int .i64 o.2.2.1, .int .i64 o.2.2.2.1, .int .i64 o.2.2.2.2.1, .int .i64 o.2.2.2.2.2.1, .int .i64 o.2.2.2.2.2.2] w3 := B0_2.drew.kept k3 (Nat.ne_of_gt y1_BF)
  have B1_3 : Arr (w.heap.size + 1) [.int .i64 0, .int .i64 0, .int .i64 0] w3 := B1_2.drew.kept k3 (Nat.ne_of_gt y2_BF)
  have z3 := B1_3.lies
  clear hHeld
  refine hK.out _ _ B0_3 (fun hHeld => ?_)
  clear hK K K2 BF_2 B0_2 B1_2 k3
  refine call_at (i := 7) (by kernel_rfl) rfl (fun K hK => ?_)
  go_simp
  refine (dDays_any b false o.2.2.2.2.2.2 _ f3).mono ?_
  rintro e w4 ⟨rfl, f4, k4⟩
  rw [hda] at f4 ⊢
  dsimp only at f4 ⊢
  have K4 : Kept b w w4 := Kept.trans K3 k4
  have B0_4 : Arr w.heap.size [.int .i64 o.1, .int .i64 o.2.1, .int .i64 o.2.2.1, .int .i64 o.2.2.2.1, .int .i64 o.2.2.2.2.1, .int .i64 o.2.2.2.2.2.1, .int .i64 o.2.2.2.2.2.2] w4 := B0_3.kept k4 (Nat.ne_of_gt y1_BF)
  have B1_4 : Arr (w.heap.size + 1) [.int .i64 0, .int .i64 0, .int .i64 0] w4 := B1_3.kept k4 (Nat.ne_of_gt y2_BF)
  have z4 := B1_4.lies
  clear hHeld
  refine hK.out _ _ B0_4 (fun hHeld => ?_)
  clear hK K K3 f3 B0_3 B1_3 k4
  refine call_at (i := 8) (by kernel_rfl) rfl (fun K hK => ?_)
  go_simp
  refine (rSub_any b false dt da _ f4).mono ?_
  rintro e w5 ⟨rfl, f5, k5⟩
  rw [hd] at f5 ⊢
  dsimp only at f5 ⊢
  have K5 : Kept b w w5 := Kept.trans K4 k5
  have B0_5 : Arr w.heap.size [.int .i64 o.1, .int .i64 o.2.1, .int .i64 o.2.2.1, .int .i64 o.2.2.2.1, .int .i64 o.2.2.2.2.1, .int .i64 o.2.2.2.2.2.1, .int .i64 o.2.2.2.2.2.2] w5 := B0_4.kept k5 (Nat.ne_of_gt y1_BF)
  have B1_5 : Arr (w.heap.size + 1) [.int .i64 0, .int .i64 0, .int .i64 0] w5 := B1_4.kept k5 (Nat.ne_of_gt y2_BF)
  have z5 := B1_5.lies
  clear hHeld
  refine hK.out _ _ B0_5 (fun hHeld => ?_)
  clear hK K K4 f4 B0_4 B1_4 k5
  refine take_at (i := 9) (v := ?v7) rfl (by kernel_rfl) (by kernel_rfl) (by kernel_rfl) (fun _ _ _ h => h) (Or.inl ⟨by rfl, ?y7⟩) hHeld ?t7
  case y7 => (intro wx hSw; go_simp <;> with_reducible rfl)
  simp only [Act.put, List.setIfInBounds_toArray, List.set_cons_zero, List.set_cons_succ]
  refine wpAnyH_done (by kernel_rfl) ?_ _
  clear hHeld
  go_wp2_with fail
  refine wp_region_held_drew (S := fun w' => Arr w.heap.size [.int .i64 o.1, .int .i64 o.2.1, .int .i64 o.2.2.1, .int .i64 o.2.2.2.1, .int .i64 o.2.2.2.2.1, .int .i64 o.2.2.2.2.2.1, .int .i64 o.2.2.2.2.2.2] w') (by kernel_rfl) B0_5.drew (fun hHeld => ?_)
  refine take_at (i := 0) (v := ?v8) rfl (by kernel_rfl) (by kernel_rfl) (by kernel_rfl) (fun _ _ _ h => h) (Or.inl ⟨by rfl, ?y8⟩) hHeld ?t8
  case y8 => (intro wx hSw; go_simp <;> with_reducible rfl)
  simp only [Act.put, List.setIfInBounds_toArray, List.set_cons_zero, List.set_cons_succ]
  refine take_at (i := 1) (v := ?v9) rfl (by kernel_rfl) (by kernel_rfl) (by kernel_rfl) (fun _ _ _ h => h) (Or.inl ⟨by rfl, ?y9⟩) hHeld ?t9
  case y9 => (intro wx hSw; go_simp <;> with_reducible rfl)
  simp only [Act.put, List.setIfInBounds_toArray, List.set_cons_zero, List.set_cons_succ]
  refine take_at (i := 2) (v := ?v10) rfl (by kernel_rfl) (by kernel_rfl) (by kernel_rfl) (fun _ _ _ h => h) (Or.inl ⟨by rfl, ?y10⟩) hHeld ?t10
  case y10 => (intro wx hSw; go_simp <;> with_reducible rfl)
  simp only [Act.put, List.setIfInBounds_toArray, List.set_cons_zero, List.set_cons_succ]
  refine take_at (i := 3) (v := ?v11) rfl (by kernel_rfl) (by kernel_rfl) (by kernel_rfl) (fun _ _ _ h => h) (Or.inl ⟨by rfl, ?y11⟩) hHeld ?t11
  case y11 => (intro wx hSw; go_simp <;> with_reducible rfl)
  simp only [Act.put, List.setIfInBounds_toArray, List.set_cons_zero, List.set_cons_succ]
  refine take_at (i := 4) (v := ?v12) rfl (by kernel_rfl) (by kernel_rfl) (by kernel_rfl) (fun _ _ _ h => h) (Or.inl ⟨by rfl, ?y12⟩) hHeld ?t12
  case y12 => (intro wx hSw; have hc0 : wx.cell? ⟨w.heap.size, 0, none⟩ = some (.int .i64 o.1) := hSw.c 0 (of_decide_eq_true rfl); go_simp <;> with_reducible rfl)
  simp only [Act.put, List.setIfInBounds_toArray, List.set_cons_zero, List.set_cons_succ]
  refine take_at (i := 7) (v := ?v13) rfl (by kernel_rfl) (by kernel_rfl) (by kernel_rfl) (fun _ _ _ h => h) (Or.inl ⟨by rfl, ?y13⟩) hHeld ?t13
  case y13 => (intro wx hSw; go_simp <;> with_reducible rfl)
  simp only [Act.put, List.setIfInBounds_toArray, List.set_cons_zero, List.set_cons_succ]
  refine take_at (i := 8) (v := ?v14) rfl (by kernel_rfl) (by kernel_rfl) (by kernel_rfl) (fun _ _ _ h => h) (Or.inl ⟨by rfl, ?y14⟩) hHeld ?t14
  case y14 => (intro wx hSw; have hc0 : wx.cell? ⟨w.heap.size, 0, none⟩ = some (.int .i64 o.1) := hSw.c 0 (of_decide_eq_true rfl); go_simp <;> with_reducible rfl)
  simp only [Act.put, List.setIfInBounds_toArray, List.set_cons_zero, List.set_cons_succ]
  refine call_at (i := 5) (by kernel_rfl) rfl (fun K hK => ?_)
  go_simp
  refine (rDiv_any b false 3271636820114455529 o.1 _ f5.drew).mono ?_
  rintro e w6 ⟨rfl, f6, k6⟩
  rw [G.hn1] at f6 ⊢
  dsimp only at f6 ⊢
  have K6 : Kept b w w6 := Kept.trans K5.drew k6
  have B0_6 : Arr w.heap.size [.int .i64 o.1, .int .i64 o.2.1, .int .i64 o.2.2.1, .int .i64 o.2.2.2.1, .int .i64 o.2.2.2.2.1, .int .i64 o.2.2.2.2.2.1, .int .i64 o.2.2.2.2.2.2] w6 := B0_5.drew.kept k6 (Nat.ne_of_gt y1_BF)
  have B1_6 : Arr (w.heap.size + 1) [.int .i64 0, .int .i64 0, .int .i64 0] w6 := B1_5.drew.kept k6 (Nat.ne_of_gt y2_BF)
  have z6 := B1_6.lies
  clear hHeld
  refine hK.out _ _ B0_6 (fun hHeld => ?_)
  clear hK K K5 f5 B0_5 B1_5 k6
  refine call_at (i := 6) (by kernel_rfl) rfl (fun K hK => ?_)
  go_simp
  refine (rSqrt_any b false G.n1 _ f6).mono ?_
  rintro e w7 ⟨rfl, f7, k7⟩
  rw [G.hn2] at f7 ⊢
  dsimp only at f7 ⊢
  have K7 : Kept b w w7 := Kept.trans K6 k7
  have B0_7 : Arr w.heap.size [.int .i64 o.1, .int .i64 o.2.1, .int .i64 o.2.2.1, .int .i64 o.2.2.2.1, .int .i64 o.2.2.2.2.1, .int .i64 o.2.2.2.2.2.1, .int .i64 o.2.2.2.2.2.2] w7 := B0_6.kept k7 (Nat.ne_of_gt y1_BF)
  have B1_7 : Arr (w.heap.size + 1) [.int .i64 0, .int .i64 0, .int .i64 0] w7 := B1_6.kept k7 (Nat.ne_of_gt y2_BF)
  have z7 := B1_7.lies
  clear hHeld
  refine hK.out _ _ B0_7 (fun hHeld => ?_)
  clear hK K K6 f6 B0_6 B1_6 k7
  refine call_at (i := 9) (by kernel_rfl) rfl (fun K hK => ?_)
  go_simp
  refine (rDiv_any b false G.n2 o.1 _ f7).mono ?_
  rintro e w8 ⟨rfl, f8, k8⟩
  rw [G.hn] at f8 ⊢
  dsimp only at f8 ⊢
  have K8 : Kept b w w8 := Kept.trans K7 k8
  have B0_8 : Arr w.heap.size [.int .i64 o.1, .int .i64 o.2.1, .int .i64 o.2.2.1, .int .i64 o.2.2.2.1, .int .i64 o.2.2.2.2.1, .int .i64 o.2.2.2.2.2.1, .int .i64 o.2.2.2.2.2.2] w8 := B0_7.kept k8 (Nat.ne_of_gt y1_BF)
  have B1_8 : Arr (w.heap.size + 1) [.int .i64 0, .int .i64 0, .int .i64 0] w8 := B1_7.kept k8 (Nat.ne_of_gt y2_BF)
  have z8 := B1_8.lies
  clear hHeld
  refine hK.out _ _ B0_8 (fun hHeld => ?_)
  clear hK K K7 f7 B0_7 B1_7 k8
  refine take_at (i := 10) (v := ?v15) rfl (by kernel_rfl) (by kernel_rfl) (by kernel_rfl) (fun _ _ _ h => h) (Or.inl ⟨by rfl, ?y15⟩) hHeld ?t15
  case y15 => (intro wx hSw; go_simp <;> with_reducible rfl)
  simp only [Act.put, List.setIfInBounds_toArray, List.set_cons_zero, List.set_cons_succ]
  refine wpAnyH_done (by kernel_rfl) ?_ _
  clear hHeld
  have c5_B0_1 : w8.cell? ⟨w.heap.size, 1, none⟩ = some (.int .i64 o.2.1) := B0_8.c 1 (of_decide_eq_true rfl)
  go_wp2_with fail
  refine (rMul_any b false o.2.1 o.2.1 _ f8).mono ?_
  rintro e w9 ⟨rfl, f9, k9⟩
  rw [G.he2] at f9 ⊢
  dsimp only at f9 ⊢
  have K9 : Kept b w w9 := Kept.trans K8 k9
  have B0_9 : Arr w.heap.size [.int .i64 o.1, .int .i64 o.2.1, .int .i64 o.2.2.1, .int .i64 o.2.2.2.1, .int .i64 o.2.2.2.2.1, .int .i64 o.2.2.2.2.2.1, .int .i64 o.2.2.2.2.2.2] w9 := B0_8.kept k9 (Nat.ne_of_gt y1_BF)
  have B1_9 : Arr (w.heap.size + 1) [.int .i64 0, .int .i64 0, .int .i64 0] w9 := B1_8.kept k9 (Nat.ne_of_gt y2_BF)
  have z9 := B1_9.lies
  clear c5_B0_1 K8 f8 B0_8 B1_8 k9
  go_wp2_with fail
  refine (rSub_any b false 1099511627776 G.e2 _ f9).mono ?_
  rintro e w10 ⟨rfl, f10, k10⟩
  rw [G.hoe] at f10 ⊢
  dsimp only at f10 ⊢
  have K10 : Kept b w w10 := Kept.trans K9 k10
  have B0_10 : Arr w.heap.size [.int .i64 o.1, .int .i64 o.2.1, .int .i64 o.2.2.1, .int .i64 o.2.2.2.1, .int .i64 o.2.2.2.2.1, .int .i64 o.2.2.2.2.2.1, .int .i64 o.2.2.2.2.2.2] w10 := B0_9.kept k10 (Nat.ne_of_gt y1_BF)
  have B1_10 : Arr (w.heap.size + 1) [.int .i64 0, .int .i64 0, .int .i64 0] w10 := B1_9.kept k10 (Nat.ne_of_gt y2_BF)
  have z10 := B1_10.lies
  clear K9 f9 B0_9 B1_9 k10
  go_wp2_with fail
  refine (rSqrt_any b false (1099511627776 - G.e2) _ f10).mono ?_
  rintro e w11 ⟨rfl, f11, k11⟩
  rw [G.hr] at f11 ⊢
  dsimp only at f11 ⊢
  have K11 : Kept b w w11 := Kept.trans K10 k11
  have B0_11 : Arr w.heap.size [.int .i64 o.1, .int .i64 o.2.1, .int .i64 o.2.2.1, .int .i64 o.2.2.2.1, .int .i64 o.2.2.2.2.1, .int .i64 o.2.2.2.2.2.1, .int .i64 o.2.2.2.2.2.2] w11 := B0_10.kept k11 (Nat.ne_of_gt y1_BF)
  have B1_11 : Arr (w.heap.size + 1) [.int .i64 0, .int .i64 0, .int .i64 0] w11 := B1_10.kept k11 (Nat.ne_of_gt y2_BF)
  have z11 := B1_11.lies
  clear K10 f10 B0_10 B1_10 k11
  go_wp2_with fail
  refine wp_region_held_drew (S := fun w' => Arr w.heap.size [.int .i64 o.1, .int .i64 o.2.1, .int .i64 o.2.2.1, .int .i64 o.2.2.2.1, .int .i64 o.2.2.2.2.1, .int .i64 o.2.2.2.2.2.1, .int .i64 o.2.2.2.2.2.2] w') (by kernel_rfl) B0_11.drew (fun hHeld => ?_)
  refine take_at (i := 0) (v := ?v16) rfl (by kernel_rfl) (by kernel_rfl) (by kernel_rfl) (fun _ _ _ h => h) (Or.inl ⟨by rfl, ?y16⟩) hHeld ?t16
  case y16 => (intro wx hSw; go_simp <;> with_reducible rfl)
  simp only [Act.put, List.setIfInBounds_toArray, List.set_cons_zero, List.set_cons_succ]
  refine take_at (i := 1) (v := ?v17) rfl (by kernel_rfl) (by kernel_rfl) (by kernel_rfl) (fun _ _ _ h => h) (Or.inl ⟨by rfl, ?y17⟩) hHeld ?t17
  case y17 => (intro wx hSw; go_simp <;> with_reducible rfl)
  simp only [Act.put, List.setIfInBounds_toArray, List.set_cons_zero, List.set_cons_succ]
  refine take_at (i := 2) (v := ?v18) rfl (by kernel_rfl) (by kernel_rfl) (by kernel_rfl) (fun _ _ _ h => h) (Or.inl ⟨by rfl, ?y18⟩) hHeld ?t18
  case y18 => (intro wx hSw; have hc0 : wx.cell? ⟨w.heap.size, 0, none⟩ = some (.int .i64 o.1) := hSw.c 0 (of_decide_eq_true rfl); go_simp <;> with_reducible rfl)
  simp only [Act.put, List.setIfInBounds_toArray, List.set_cons_zero, List.set_cons_succ]
  refine take_at (i := 3) (v := ?v19) rfl (by kernel_rfl) (by kernel_rfl) (by kernel_rfl) (fun _ _ _ h => h) (Or.inl ⟨by rfl, ?y19⟩) hHeld ?t19
  case y19 => (intro wx hSw; go_simp <;> with_reducible rfl)
  simp only [Act.put, List.setIfInBounds_toArray, List.set_cons_zero, List.set_cons_succ]
  refine take_at (i := 4) (v := ?v20) rfl (by kernel_rfl) (by kernel_rfl) (by kernel_rfl) (fun _ _ _ h => h) (Or.inl ⟨by rfl, ?y20⟩) hHeld ?t20
  case y20 => (intro wx hSw; go_simp <;> with_reducible rfl)
  simp only [Act.put, List.setIfInBounds_toArray, List.set_cons_zero, List.set_cons_succ]
  refine take_at (i := 5) (v := ?v21) rfl (by kernel_rfl) (by kernel_rfl) (by kernel_rfl) (fun _ _ _ h => h) (Or.inl ⟨by rfl, ?y21⟩) hHeld ?t21
  case y21 => (intro wx hSw; go_simp <;> with_reducible rfl)
  simp only [Act.put, List.setIfInBounds_toArray, List.set_cons_zero, List.set_cons_succ]
  refine call_at (i := 6) (by kernel_rfl) rfl (fun K hK => ?_)
  go_simp
  refine (rMul_any b false G.r G.r _ f11.drew).mono ?_
  rintro e w12 ⟨rfl, f12, k12⟩
  rw [G.hrr] at f12 ⊢
  dsimp only at f12 ⊢
  have K12 : Kept b w w12 := Kept.trans K11.drew k12
  have B0_12 : Arr w.heap.size [.int .i64 o.1, .int .i64 o.2.1, .int .i64 o.2.2.1, .int .i64 o.2.2.2.1, .int .i64 o.2.2.2.2.1, .int .i64 o.2.2.2.2.2.1, .int .i64 o.2.2.2.2.2.2] w12 := B0_11.drew.kept k12 (Nat.ne_of_gt y1_BF)
  have B1_12 : Arr (w.heap.size + 1) [.int .i64 0, .int .i64 0, .int .i64 0] w12 := B1_11.drew.kept k12 (Nat.ne_of_gt y2_BF)
  have z12 := B1_12.lies
  clear hHeld
  refine hK.out _ _ B0_12 (fun hHeld => ?_)
  clear hK K K11 f11 B0_11 B1_11 k12
  refine call_at (i := 7) (by kernel_rfl) rfl (fun K hK => ?_)
  go_simp
  refine (rMul_any b false o.1 G.rr _ f12).mono ?_
  rintro e w13 ⟨rfl, f13, k13⟩
  rw [G.hp] at f13 ⊢
  dsimp only at f13 ⊢
  have K13 : Kept b w w13 := Kept.trans K12 k13
  have B0_13 : Arr w.heap.size [.int .i64 o.1, .int .i64 o.2.1, .int .i64 o.2.2.1, .int .i64 o.2.2.2.1, .int .i64 o.2.2.2.2.1, .int .i64 o.2.2.2.2.2.1, .int .i64 o.2.2.2.2.2.2] w13 := B0_12.kept k13 (Nat.ne_of_gt y1_BF)
  have B1_13 : Arr (w.heap.size + 1) [.int .i64 0, .int .i64 0, .int .i64 0] w13 := B1_12.kept k13 (Nat.ne_of_gt y2_BF)
  have z13 := B1_13.lies
  clear hHeld
  refine hK.out _ _ B0_13 (fun hHeld => ?_)
  clear hK K K12 f12 B0_12 B1_12 k13
  refine take_at (i := 8) (v := ?v22) rfl (by kernel_rfl) (by kernel_rfl) (by kernel_rfl) (fun _ _ _ h => h) (Or.inl ⟨by rfl, ?y22⟩) hHeld ?t22
  case y22 => (intro wx hSw; go_simp <;> with_reducible rfl)
  simp only [Act.put, List.setIfInBounds_toArray, List.set_cons_zero, List.set_cons_succ]
  refine wpAnyH_done (by kernel_rfl) ?_ _
  clear hHeld
  go_wp2_with fail
  refine (rDiv_any b false 7012835795048 G.p _ f13).mono ?_
  rintro e w14 ⟨rfl, f14, k14⟩
  rw [G.hk1] at f14 ⊢
  dsimp only at f14 ⊢
  have K14 : Kept b w w14 := Kept.trans K13 k14
  have B0_14 : Arr w.heap.size [.int .i64 o.1, .int .i64 o.2.1, .int .i64 o.2.2.1, .int .i64 o.2.2.2.1, .int .i64 o.2.2.2.2.1, .int .i64 o.2.2.2.2.2.1, .int .i64 o.2.2.2.2.2.2] w14 := B0_13.kept k14 (Nat.ne_of_gt y1_BF)
  have B1_14 : Arr (w.heap.size + 1) [.int .i64 0, .int .i64 0, .int .i64 0] w14 := B1_13.kept k14 (Nat.ne_of_gt y2_BF)
  have z14 := B1_14.lies
  clear K13 f13 B0_13 B1_13 k14
  go_wp2_with fail
  refine (rMul_any b false G.k1 G.k1 _ f14).mono ?_
  rintro e w15 ⟨rfl, f15, k15⟩
  rw [G.hk2] at f15 ⊢
  dsimp only at f15 ⊢
  have K15 : Kept b w w15 := Kept.trans K14 k15
  have B0_15 : Arr w.heap.size [.int .i64 o.1, .int .i64 o.2.1, .int .i64 o.2.2.1, .int .i64 o.2.2.2.1, .int .i64 o.2.2.2.2.1, .int .i64 o.2.2.2.2.2.1, .int .i64 o.2.2.2.2.2.2] w15 := B0_14.kept k15 (Nat.ne_of_gt y1_BF)
  have B1_15 : Arr (w.heap.size + 1) [.int .i64 0, .int .i64 0, .int .i64 0] w15 := B1_14.kept k15 (Nat.ne_of_gt y2_BF)
  have z15 := B1_15.lies
  clear K14 f14 B0_14 B1_14 k15
  go_wp2_with fail
  refine (rMul_any b false 1785540935 G.k2 _ f15).mono ?_
  rintro e w16 ⟨rfl, f16, k16⟩
  rw [G.hk3] at f16 ⊢
  dsimp only at f16 ⊢
  have K16 : Kept b w w16 := Kept.trans K15 k16
  have B0_16 : Arr w.heap.size [.int .i64 o.1, .int .i64 o.2.1, .int .i64 o.2.2.1, .int .i64 o.2.2.2.1, .int .i64 o.2.2.2.2.1, .int .i64 o.2.2.2.2.2.1, .int .i64 o.2.2.2.2.2.2] w16 := B0_15.kept k16 (Nat.ne_of_gt y1_BF)
  have B1_16 : Arr (w.heap.size + 1) [.int .i64 0, .int .i64 0, .int .i64 0] w16 := B1_15.kept k16 (Nat.ne_of_gt y2_BF)
  have z16 := B1_16.lies
  clear K15 f15 B0_15 B1_15 k16
  go_wp2_with fail
  refine (rMul_any b false G.k3 G.n _ f16).mono ?_
  rintro e w17 ⟨rfl, f17, k17⟩
  rw [G.hk] at f17 ⊢
  dsimp only at f17 ⊢
  have K17 : Kept b w w17 := Kept.trans K16 k17
  have B0_17 : Arr w.heap.size [.int .i64 o.1, .int .i64 o.2.1, .int .i64 o.2.2.1, .int .i64 o.2.2.2.1, .int .i64 o.2.2.2.2.1, .int .i64 o.2.2.2.2.2.1, .int .i64 o.2.2.2.2.2.2] w17 := B0_16.kept k17 (Nat.ne_of_gt y1_BF)
  have B1_17 : Arr (w.heap.size + 1) [.int .i64 0, .int .i64 0, .int .i64 0] w17 := B1_16.kept k17 (Nat.ne_of_gt y2_BF)
  have z17 := B1_17.lies
  clear K16 f16 B0_16 B1_16 k17
  have c13_B0_2 : w17.cell? ⟨w.heap.size, 2, none⟩ = some (.int .i64 o.2.2.1) := B0_17.c 2 (of_decide_eq_true rfl)
  go_wp2_with fail
  refine (rSin_any b false o.2.2.1 _ f17).mono ?_
  rintro e w18 ⟨rfl, f18, k18⟩
  rw [G.hs] at f18 ⊢
  dsimp only at f18 ⊢
  have K18 : Kept b w w18 := Kept.trans K17 k18
  have B0_18 : Arr w.heap.size [.int .i64 o.1, .int .i64 o.2.1, .int .i64 o.2.2.1, .int .i64 o.2.2.2.1, .int .i64 o.2.2.2.2.1, .int .i64 o.2.2.2.2.2.1, .int .i64 o.2.2.2.2.2.2] w18 := B0_17.kept k18 (Nat.ne_of_gt y1_BF)
  have B1_18 : Arr (w.heap.size + 1) [.int .i64 0, .int .i64 0, .int .i64 0] w18 := B1_17.kept k18 (Nat.ne_of_gt y2_BF)
  have z18 := B1_18.lies
  clear c13_B0_2 K17 f17 B0_17 B1_17 k18
  have c14_B0_2 : w18.cell? ⟨w.heap.size, 2, none⟩ = some (.int .i64 o.2.2.1) := B0_18.c 2 (of_decide_eq_true rfl)
  go_wp2_with fail
  refine (rCos_any b false o.2.2.1 _ f18).mono ?_
  rintro e w19 ⟨rfl, f19, k19⟩
  rw [G.hc] at f19 ⊢
  dsimp only at f19 ⊢
  have K19 : Kept b w w19 := Kept.trans K18 k19
  have B0_19 : Arr w.heap.size [.int .i64 o.1, .int .i64 o.2.1, .int .i64 o.2.2.1, .int .i64 o.2.2.2.1, .int .i64 o.2.2.2.2.1, .int .i64 o.2.2.2.2.2.1, .int .i64 o.2.2.2.2.2.2] w19 := B0_18.kept k19 (Nat.ne_of_gt y1_BF)
  have B1_19 : Arr (w.heap.size + 1) [.int .i64 0, .int .i64 0, .int .i64 0] w19 := B1_18.kept k19 (Nat.ne_of_gt y2_BF)
  have z19 := B1_19.lies
  clear c14_B0_2 K18 f18 B0_18 B1_18 k19
  go_wp2_with fail
  refine (rMul_any b false G.s G.s _ f19).mono ?_
  rintro e w20 ⟨rfl, f20, k20⟩
  rw [G.ht] at f20 ⊢
  dsimp only at f20 ⊢
  have K20 : Kept b w w20 := Kept.trans K19 k20
  have B0_20 : Arr w.heap.size [.int .i64 o.1, .int .i64 o.2.1, .int .i64 o.2.2.1, .int .i64 o.2.2.2.1, .int .i64 o.2.2.2.2.1, .int .i64 o.2.2.2.2.2.1, .int .i64 o.2.2.2.2.2.2] w20 := B0_19.kept k20 (Nat.ne_of_gt y1_BF)
  have B1_20 : Arr (w.heap.size + 1) [.int .i64 0, .int .i64 0, .int .i64 0] w20 := B1_19.kept k20 (Nat.ne_of_gt y2_BF)
  have z20 := B1_20.lies
  clear K19 f19 B0_19 B1_19 k20
  go_wp2_with fail
  refine wp_region_held_drew (S := fun w' => Arr w.heap.size [.int .i64 o.1, .int .i64 o.2.1, .int .i64 o.2.2.1, .int .i64 o.2.2.2.1, .int .i64 o.2.2.2.2.1, .int .i64 o.2.2.2.2.2.1, .int .i64 o.2.2.2.2.2.2] w') (by kernel_rfl) B0_20.drew (fun hHeld => ?_)
  refine take_at (i := 0) (v := ?v23) rfl (by kernel_rfl) (by kernel_rfl) (by kernel_rfl) (fun _ _ _ h => h) (Or.inl ⟨by rfl, ?y23⟩) hHeld ?t23
  case y23 => (intro wx hSw; go_simp <;> with_reducible rfl)
  simp only [Act.put, List.setIfInBounds_toArray, List.set_cons_zero, List.set_cons_succ]
  refine take_at (i := 1) (v := ?v24) rfl (by kernel_rfl) (by kernel_rfl) (by kernel_rfl) (fun _ _ _ h => h) (Or.inl ⟨by rfl, ?y24⟩) hHeld ?t24
  case y24 => (intro wx hSw; go_simp <;> with_reducible rfl)
  simp only [Act.put, List.setIfInBounds_toArray, List.set_cons_zero, List.set_cons_succ]
  refine take_at (i := 2) (v := ?v25) rfl (by kernel_rfl) (by kernel_rfl) (by kernel_rfl) (fun _ _ _ h => h) (Or.inl ⟨by rfl, ?y25⟩) hHeld ?t25
  case y25 => (intro wx hSw; have hc3 : wx.cell? ⟨w.heap.size, 3, none⟩ = some (.int .i64 o.2.2.2.1) := hSw.c 3 (of_decide_eq_true rfl); go_simp <;> with_reducible rfl)
  simp only [Act.put, List.setIfInBounds_toArray, List.set_cons_zero, List.set_cons_succ]
  refine take_at (i := 3) (v := ?v26) rfl (by kernel_rfl) (by kernel_rfl) (by kernel_rfl) (fun _ _ _ h => h) (Or.inl ⟨by rfl, ?y26⟩) hHeld ?t26
  case y26 => (intro wx hSw; go_simp <;> with_reducible rfl)
  simp only [Act.put, List.setIfInBounds_toArray, List.set_cons_zero, List.set_cons_succ]
  refine take_at (i := 4) (v := ?v27) rfl (by kernel_rfl) (by kernel_rfl) (by kernel_rfl) (fun _ _ _ h => h) (Or.inl ⟨by rfl, ?y27⟩) hHeld ?t27
  case y27 => (intro wx hSw; go_simp <;> with_reducible rfl)
  simp only [Act.put, List.setIfInBounds_toArray, List.set_cons_zero, List.set_cons_succ]
  refine take_at (i := 5) (v := ?v28) rfl (by kernel_rfl) (by kernel_rfl) (by kernel_rfl) (fun _ _ _ h => h) (Or.inl ⟨by rfl, ?y28⟩) hHeld ?t28
  case y28 => (intro wx hSw; go_simp <;> with_reducible rfl)
  simp only [Act.put, List.setIfInBounds_toArray, List.set_cons_zero, List.set_cons_succ]
  refine take_at (i := 6) (v := ?v29) rfl (by kernel_rfl) (by kernel_rfl) (by kernel_rfl) (fun _ _ _ h => h) (Or.inl ⟨by rfl, ?y29⟩) hHeld ?t29
  case y29 => (intro wx hSw; go_simp <;> with_reducible rfl)
  simp only [Act.put, List.setIfInBounds_toArray, List.set_cons_zero, List.set_cons_succ]
  refine take_at (i := 8) (v := ?v30) rfl (by kernel_rfl) (by kernel_rfl) (by kernel_rfl) (fun _ _ _ h => h) (Or.inl ⟨by rfl, ?y30⟩) hHeld ?t30
  case y30 => (intro wx hSw; go_simp <;> with_reducible rfl)
  simp only [Act.put, List.setIfInBounds_toArray, List.set_cons_zero, List.set_cons_succ]
  refine call_at (i := 7) (by kernel_rfl) rfl (fun K hK => ?_)
  go_simp
  refine (rMul_any b false G.k G.c _ f20.drew).mono ?_
  rintro e w21 ⟨rfl, f21, k21⟩
  rw [G.hkc] at f21 ⊢
  dsimp only at f21 ⊢
  have K21 : Kept b w w21 := Kept.trans K20.drew k21
  have B0_21 : Arr w.heap.size [.int .i64 o.1, .int .i64 o.2.1, .int .i64 o.2.2.1, .int .i64 o.2.2.2.1, .int .i64 o.2.2.2.2.1, .int .i64 o.2.2.2.2.2.1, .int .i64 o.2.2.2.2.2.2] w21 := B0_20.drew.kept k21 (Nat.ne_of_gt y1_BF)
  have B1_21 : Arr (w.heap.size + 1) [.int .i64 0, .int .i64 0, .int .i64 0] w21 := B1_20.drew.kept k21 (Nat.ne_of_gt y2_BF)
  have z21 := B1_21.lies
  clear hHeld
  refine hK.out _ _ B0_21 (fun hHeld => ?_)
  clear hK K K20 f20 B0_20 B1_20 k21
  refine call_at (i := 9) (by kernel_rfl) rfl (fun K hK => ?_)
  go_simp
  refine (rMul_any b false G.kc (dt - da) _ f21).mono ?_
  rintro e w22 ⟨rfl, f22, k22⟩
  rw [G.hkcd] at f22 ⊢
  dsimp only at f22 ⊢
  have K22 : Kept b w w22 := Kept.trans K21 k22
  have B0_22 : Arr w.heap.size [.int .i64 o.1, .int .i64 o.2.1, .int .i64 o.2.2.1, .int .i64 o.2.2.2.1, .int .i64 o.2.2.2.2.1, .int .i64 o.2.2.2.2.2.1, .int .i64 o.2.2.2.2.2.2] w22 := B0_21.kept k22 (Nat.ne_of_gt y1_BF)
  have B1_22 : Arr (w.heap.size + 1) [.int .i64 0, .int .i64 0, .int .i64 0] w22 := B1_21.kept k22 (Nat.ne_of_gt y2_BF)
  have z22 := B1_22.lies
  clear hHeld
  refine hK.out _ _ B0_22 (fun hHeld => ?_)
  clear hK K K21 f21 B0_21 B1_21 k22
  refine call_at (i := 10) (by kernel_rfl) rfl (fun K hK => ?_)
  go_simp
  refine (rSub_any b false o.2.2.2.1 G.kcd _ f22).mono ?_
  rintro e w23 ⟨rfl, f23, k23⟩
  rw [G.hnode] at f23 ⊢
  dsimp only at f23 ⊢
  have K23 : Kept b w w23 := Kept.trans K22 k23
  have B0_23 : Arr w.heap.size [.int .i64 o.1, .int .i64 o.2.1, .int .i64 o.2.2.1, .int .i64 o.2.2.2.1, .int .i64 o.2.2.2.2.1, .int .i64 o.2.2.2.2.2.1, .int .i64 o.2.2.2.2.2.2] w23 := B0_22.kept k23 (Nat.ne_of_gt y1_BF)
  have B1_23 : Arr (w.heap.size + 1) [.int .i64 0, .int .i64 0, .int .i64 0] w23 := B1_22.kept k23 (Nat.ne_of_gt y2_BF)
  have z23 := B1_23.lies
  clear hHeld
  refine hK.out _ _ B0_23 (fun hHeld => ?_)
  clear hK K K22 f22 B0_22 B1_22 k23
  refine take_at (i := 11) (v := ?v31) rfl (by kernel_rfl) (by kernel_rfl) (by kernel_rfl) (fun _ _ _ h => h) (Or.inl ⟨by rfl, ?y31⟩) hHeld ?t31
  case y31 => (intro wx hSw; go_simp <;> with_reducible rfl)
  simp only [Act.put, List.setIfInBounds_toArray, List.set_cons_zero, List.set_cons_succ]
  refine wpAnyH_done (by kernel_rfl) ?_ _
  clear hHeld
  go_wp2_with fail
  refine wp_region_held_drew (S := fun w' => Arr w.heap.size [.int .i64 o.1, .int .i64 o.2.1, .int .i64 o.2.2.1, .int .i64 o.2.2.2.1, .int .i64 o.2.2.2.2.1, .int .i64 o.2.2.2.2.2.1, .int .i64 o.2.2.2.2.2.2] w') (by kernel_rfl) B0_23.drew (fun hHeld => ?_)
  refine take_at (i := 0) (v := ?v32) rfl (by kernel_rfl) (by kernel_rfl) (by kernel_rfl) (fun _ _ _ h => h) (Or.inl ⟨by rfl, ?y32⟩) hHeld ?t32
  case y32 => (intro wx hSw; go_simp <;> with_reducible rfl)
  simp only [Act.put, List.setIfInBounds_toArray, List.set_cons_zero, List.set_cons_succ]
  refine take_at (i := 1) (v := ?v33) rfl (by kernel_rfl) (by kernel_rfl) (by kernel_rfl) (fun _ _ _ h => h) (Or.inl ⟨by rfl, ?y33⟩) hHeld ?t33
  case y33 => (intro wx hSw; go_simp <;> with_reducible rfl)
  simp only [Act.put, List.setIfInBounds_toArray, List.set_cons_zero, List.set_cons_succ]
  refine take_at (i := 2) (v := ?v34) rfl (by kernel_rfl) (by kernel_rfl) (by kernel_rfl) (fun _ _ _ h => h) (Or.inl ⟨by rfl, ?y34⟩) hHeld ?t34
  case y34 => (intro wx hSw; have hc4 : wx.cell? ⟨w.heap.size, 4, none⟩ = some (.int .i64 o.2.2.2.2.1) := hSw.c 4 (of_decide_eq_true rfl); go_simp <;> with_reducible rfl)
  simp only [Act.put, List.setIfInBounds_toArray, List.set_cons_zero, List.set_cons_succ]
  refine take_at (i := 3) (v := ?v35) rfl (by kernel_rfl) (by kernel_rfl) (by kernel_rfl) (fun _ _ _ h => h) (Or.inl ⟨by rfl, ?y35⟩) hHeld ?t35
  case y35 => (intro wx hSw; go_simp <;> with_reducible rfl)
  simp only [Act.put, List.setIfInBounds_toArray, List.set_cons_zero, List.set_cons_succ]
  refine take_at (i := 4) (v := ?v36) rfl (by kernel_rfl) (by kernel_rfl) (by kernel_rfl) (fun _ _ _ h => h) (Or.inl ⟨by rfl, ?y36⟩) hHeld ?t36
  case y36 => (intro wx hSw; go_simp <;> with_reducible rfl)
  simp only [Act.put, List.setIfInBounds_toArray, List.set_cons_zero, List.set_cons_succ]
  refine take_at (i := 5) (v := ?v37) rfl (by kernel_rfl) (by kernel_rfl) (by kernel_rfl) (fun _ _ _ h => h) (Or.inl ⟨by rfl, ?y37⟩) hHeld ?t37
  case y37 => (intro wx hSw; go_simp <;> with_reducible rfl)
  simp only [Act.put, List.setIfInBounds_toArray, List.set_cons_zero, List.set_cons_succ]
  refine take_at (i := 6) (v := ?v38) rfl (by kernel_rfl) (by kernel_rfl) (by kernel_rfl) (fun _ _ _ h => h) (Or.inl ⟨by rfl, ?y38⟩) hHeld ?t38
  case y38 => (intro wx hSw; go_simp <;> with_reducible rfl)
  simp only [Act.put, List.setIfInBounds_toArray, List.set_cons_zero, List.set_cons_succ]
  refine take_at (i := 7) (v := ?v39) rfl (by kernel_rfl) (by kernel_rfl) (by kernel_rfl) (fun _ _ _ h => h) (Or.inl ⟨by rfl, ?y39⟩) hHeld ?t39
  case y39 => (intro wx hSw; go_simp <;> with_reducible rfl)
  simp only [Act.put, List.setIfInBounds_toArray, List.set_cons_zero, List.set_cons_succ]
  refine take_at (i := 8) (v := ?v40) rfl (by kernel_rfl) (by kernel_rfl) (by kernel_rfl) (fun _ _ _ h => h) (Or.inl ⟨by rfl, ?y40⟩) hHeld ?t40
  case y40 => (intro wx hSw; go_simp <;> with_reducible rfl)
  simp only [Act.put, List.setIfInBounds_toArray, List.set_cons_zero, List.set_cons_succ]
  refine take_at (i := 12) (v := ?v41) rfl (by kernel_rfl) (by kernel_rfl) (by kernel_rfl) (fun _ _ _ h => h) (Or.inl ⟨by rfl, ?y41⟩) hHeld ?t41
  case y41 => (intro wx hSw; go_simp <;> with_reducible rfl)
  simp only [Act.put, List.setIfInBounds_toArray, List.set_cons_zero, List.set_cons_succ]
  refine call_at (i := 9) (by kernel_rfl) rfl (fun K hK => ?_)
  go_simp
  refine (rPart_any b false G.t 5 2 _ f23.drew).mono ?_
  rintro e w24 ⟨rfl, f24, k24⟩
  rw [G.ht5] at f24 ⊢
  dsimp only at f24 ⊢
  have K24 : Kept b w w24 := Kept.trans K23.drew k24
  have B0_24 : Arr w.heap.size [.int .i64 o.1, .int .i64 o.2.1, .int .i64 o.2.2.1, .int .i64 o.2.2.2.1, .int .i64 o.2.2.2.2.1, .int .i64 o.2.2.2.2.2.1, .int .i64 o.2.2.2.2.2.2] w24 := B0_23.drew.kept k24 (Nat.ne_of_gt y1_BF)
  have B1_24 : Arr (w.heap.size + 1) [.int .i64 0, .int .i64 0, .int .i64 0] w24 := B1_23.drew.kept k24 (Nat.ne_of_gt y2_BF)
  have z24 := B1_24.lies
  clear hHeld
  refine hK.out _ _ B0_24 (fun hHeld => ?_)
  clear hK K K23 f23 B0_23 B1_23 k24
  refine call_at (i := 10) (by kernel_rfl) rfl (fun K hK => ?_)
  go_simp
  refine (rSub_any b false 2199023255552 G.t5 _ f24).mono ?_
  rintro e w25 ⟨rfl, f25, k25⟩
  rw [G.hy5] at f25 ⊢
  dsimp only at f25 ⊢
  have K25 : Kept b w w25 := Kept.trans K24 k25
  have B0_25 : Arr w.heap.size [.int .i64 o.1, .int .i64 o.2.1, .int .i64 o.2.2.1, .int .i64 o.2.2.2.1, .int .i64 o.2.2.2.2.1, .int .i64 o.2.2.2.2.2.1, .int .i64 o.2.2.2.2.2.2] w25 := B0_24.kept k25 (Nat.ne_of_gt y1_BF)
  have B1_25 : Arr (w.heap.size + 1) [.int .i64 0, .int .i64 0, .int .i64 0] w25 := B1_24.kept k25 (Nat.ne_of_gt y2_BF)
  have z25 := B1_25.lies
  clear hHeld
  refine hK.out _ _ B0_25 (fun hHeld => ?_)
  clear hK K K24 f24 B0_24 B1_24 k25
  refine call_at (i := 11) (by kernel_rfl) rfl (fun K hK => ?_)
  go_simp
  refine (rMul_any b false G.k (2199023255552 - G.t5) _ f25).mono ?_
  rintro e w26 ⟨rfl, f26, k26⟩
  rw [G.hky] at f26 ⊢
  dsimp only at f26 ⊢
  have K26 : Kept b w w26 := Kept.trans K25 k26
  have B0_26 : Arr w.heap.size [.int .i64 o.1, .int .i64 o.2.1, .int .i64 o.2.2.1, .int .i64 o.2.2.2.1, .int .i64 o.2.2.2.2.1, .int .i64 o.2.2.2.2.2.1, .int .i64 o.2.2.2.2.2.2] w26 := B0_25.kept k26 (Nat.ne_of_gt y1_BF)
  have B1_26 : Arr (w.heap.size + 1) [.int .i64 0, .int .i64 0, .int .i64 0] w26 := B1_25.kept k26 (Nat.ne_of_gt y2_BF)
  have z26 := B1_26.lies
  clear hHeld
  refine hK.out _ _ B0_26 (fun hHeld => ?_)
  clear hK K K25 f25 B0_25 B1_25 k26
  refine call_at (i := 13) (by kernel_rfl) rfl (fun K hK => ?_)
  go_simp
  refine (rMul_any b false G.ky (dt - da) _ f26).mono ?_
  rintro e w27 ⟨rfl, f27, k27⟩
  rw [G.hkyd] at f27 ⊢
  dsimp only at f27 ⊢
  have K27 : Kept b w w27 := Kept.trans K26 k27
  have B0_27 : Arr w.heap.size [.int .i64 o.1, .int .i64 o.2.1, .int .i64 o.2.2.1, .int .i64 o.2.2.2.1, .int .i64 o.2.2.2.2.1, .int .i64 o.2.2.2.2.2.1, .int .i64 o.2.2.2.2.2.2] w27 := B0_26.kept k27 (Nat.ne_of_gt y1_BF)
  have B1_27 : Arr (w.heap.size + 1) [.int .i64 0, .int .i64 0, .int .i64 0] w27 := B1_26.kept k27 (Nat.ne_of_gt y2_BF)
  have z27 := B1_27.lies
  clear hHeld
  refine hK.out _ _ B0_27 (fun hHeld => ?_)
  clear hK K K26 f26 B0_26 B1_26 k27
  refine call_at (i := 14) (by kernel_rfl) rfl (fun K hK => ?_)
  go_simp
  refine (rAdd_any b false o.2.2.2.2.1 G.kyd _ f27).mono ?_
  rintro e w28 ⟨rfl, f28, k28⟩
  rw [G.hperi] at f28 ⊢
  dsimp only at f28 ⊢
  have K28 : Kept b w w28 := Kept.trans K27 k28
  have B0_28 : Arr w.heap.size [.int .i64 o.1, .int .i64 o.2.1, .int .i64 o.2.2.1, .int .i64 o.2.2.2.1, .int .i64 o.2.2.2.2.1, .int .i64 o.2.2.2.2.2.1, .int .i64 o.2.2.2.2.2.2] w28 := B0_27.kept k28 (Nat.ne_of_gt y1_BF)
  have B1_28 : Arr (w.heap.size + 1) [.int .i64 0, .int .i64 0, .int .i64 0] w28 := B1_27.kept k28 (Nat.ne_of_gt y2_BF)
  have z28 := B1_28.lies
  clear hHeld
  refine hK.out _ _ B0_28 (fun hHeld => ?_)
  clear hK K K27 f27 B0_27 B1_27 k28
  refine take_at (i := 15) (v := ?v42) rfl (by kernel_rfl) (by kernel_rfl) (by kernel_rfl) (fun _ _ _ h => h) (Or.inl ⟨by rfl, ?y42⟩) hHeld ?t42
  case y42 => (intro wx hSw; go_simp <;> with_reducible rfl)
  simp only [Act.put, List.setIfInBounds_toArray, List.set_cons_zero, List.set_cons_succ]
  refine wpAnyH_done (by kernel_rfl) ?_ _
  clear hHeld
  go_wp2_with fail
  refine (rMul_any b false G.k G.r _ f28).mono ?_
  rintro e w29 ⟨rfl, f29, k29⟩
  rw [G.hkr] at f29 ⊢
  dsimp only at f29 ⊢
  have K29 : Kept b w w29 := Kept.trans K28 k29
  have B0_29 : Arr w.heap.size [.int .i64 o.1, .int .i64 o.2.1, .int .i64 o.2.2.1, .int .i64 o.2.2.2.1, .int .i64 o.2.2.2.2.1, .int .i64 o.2.2.2.2.2.1, .int .i64 o.2.2.2.2.2.2] w29 := B0_28.kept k29 (Nat.ne_of_gt y1_BF)
  have B1_29 : Arr (w.heap.size + 1) [.int .i64 0, .int .i64 0, .int .i64 0] w29 := B1_28.kept k29 (Nat.ne_of_gt y2_BF)
  have z29 := B1_29.lies
  clear K28 f28 B0_28 B1_28 k29
  go_wp2_with fail
  refine (rPart_any b false G.t 3 2 _ f29).mono ?_
  rintro e w30 ⟨rfl, f30, k30⟩
  rw [G.ht3] at f30 ⊢
  dsimp only at f30 ⊢
  have K30 : Kept b w w30 := Kept.trans K29 k30
  have B0_30 : Arr w.heap.size [.int .i64 o.1, .int .i64 o.2.1, .int .i64 o.2.2.1, .int .i64 o.2.2.2.1, .int .i64 o.2.2.2.2.1, .int .i64 o.2.2.2.2.2.1, .int .i64 o.2.2.2.2.2.2] w30 := B0_29.kept k30 (Nat.ne_of_gt y1_BF)
  have B1_30 : Arr (w.heap.size + 1) [.int .i64 0, .int .i64 0, .int .i64 0] w30 := B1_29.kept k30 (Nat.ne_of_gt y2_BF)
  have z30 := B1_30.lies
  clear K29 f29 B0_29 B1_29 k30
  go_wp2_with fail
  refine (rSub_any b false 1099511627776 G.t3 _ f30).mono ?_
  rintro e w31 ⟨rfl, f31, k31⟩
  rw [G.hy3] at f31 ⊢
  dsimp only at f31 ⊢
  have K31 : Kept b w w31 := Kept.trans K30 k31
  have B0_31 : Arr w.heap.size [.int .i64 o.1, .int .i64 o.2.1, .int .i64 o.2.2.1, .int .i64 o.2.2.2.1, .int .i64 o.2.2.2.2.1, .int .i64 o.2.2.2.2.2.1, .int .i64 o.2.2.2.2.2.2] w31 := B0_30.kept k31 (Nat.ne_of_gt y1_BF)
  have B1_31 : Arr (w.heap.size + 1) [.int .i64 0, .int .i64 0, .int .i64 0] w31 := B1_30.kept k31 (Nat.ne_of_gt y2_BF)
  have z31 := B1_31.lies
  clear K30 f30 B0_30 B1_30 k31
  go_wp2_with fail
  refine (rMul_any b false G.kr (1099511627776 - G.t3) _ f31).mono ?_
  rintro e w32 ⟨rfl, f32, k32⟩
  rw [G.hw] at f32 ⊢
  dsimp only at f32 ⊢
  have K32 : Kept b w w32 := Kept.trans K31 k32
  have B0_32 : Arr w.heap.size [.int .i64 o.1, .int .i64 o.2.1, .int .i64 o.2.2.1, .int .i64 o.2.2.2.1, .int .i64 o.2.2.2.2.1, .int .i64 o.2.2.2.2.2.1, .int .i64 o.2.2.2.2.2.2] w32 := B0_31.kept k32 (Nat.ne_of_gt y1_BF)
  have B1_32 : Arr (w.heap.size + 1) [.int .i64 0, .int .i64 0, .int .i64 0] w32 := B1_31.kept k32 (Nat.ne_of_gt y2_BF)
  have z32 := B1_32.lies
  clear K31 f31 B0_31 B1_31 k32
  go_wp2_with fail
  refine wp_region_held_drew (S := fun w' => Arr w.heap.size [.int .i64 o.1, .int .i64 o.2.1, .int .i64 o.2.2.1, .int .i64 o.2.2.2.1, .int .i64 o.2.2.2.2.1, .int .i64 o.2.2.2.2.2.1, .int .i64 o.2.2.2.2.2.2] w') (by kernel_rfl) B0_32.drew (fun hHeld => ?_)
  refine take_at (i := 0) (v := ?v43) rfl (by kernel_rfl) (by kernel_rfl) (by kernel_rfl) (fun _ _ _ h => h) (Or.inl ⟨by rfl, ?y43⟩) hHeld ?t43
  case y43 => (intro wx hSw; go_simp <;> with_reducible rfl)
  simp only [Act.put, List.setIfInBounds_toArray, List.set_cons_zero, List.set_cons_succ]
  refine take_at (i := 1) (v := ?v44) rfl (by kernel_rfl) (by kernel_rfl) (by kernel_rfl) (fun _ _ _ h => h) (Or.inl ⟨by rfl, ?y44⟩) hHeld ?t44
  case y44 => (intro wx hSw; go_simp <;> with_reducible rfl)
  simp only [Act.put, List.setIfInBounds_toArray, List.set_cons_zero, List.set_cons_succ]
  refine take_at (i := 2) (v := ?v45) rfl (by kernel_rfl) (by kernel_rfl) (by kernel_rfl) (fun _ _ _ h => h) (Or.inl ⟨by rfl, ?y45⟩) hHeld ?t45
  case y45 => (intro wx hSw; go_simp <;> with_reducible rfl)
  simp only [Act.put, List.setIfInBounds_toArray, List.set_cons_zero, List.set_cons_succ]
  refine take_at (i := 3) (v := ?v46) rfl (by kernel_rfl) (by kernel_rfl) (by kernel_rfl) (fun _ _ _ h => h) (Or.inl ⟨by rfl, ?y46⟩) hHeld ?t46
  case y46 => (intro wx hSw; have hc5 : wx.cell? ⟨w.heap.size, 5, none⟩ = some (.int .i64 o.2.2.2.2.2.1) := hSw.c 5 (of_decide_eq_true rfl); go_simp <;> with_reducible rfl)
  simp only [Act.put, List.setIfInBounds_toArray, List.set_cons_zero, List.set_cons_succ]
  refine take_at (i := 4) (v := ?v47) rfl (by kernel_rfl) (by kernel_rfl) (by kernel_rfl) (fun _ _ _ h => h) (Or.inl ⟨by rfl, ?y47⟩) hHeld ?t47
  case y47 => (intro wx hSw; go_simp <;> with_reducible rfl)
  simp only [Act.put, List.setIfInBounds_toArray, List.set_cons_zero, List.set_cons_succ]
  refine take_at (i := 5) (v := ?v48) rfl (by kernel_rfl) (by kernel_rfl) (by kernel_rfl) (fun _ _ _ h => h) (Or.inl ⟨by rfl, ?y48⟩) hHeld ?t48
  case y48 => (intro wx hSw; go_simp <;> with_reducible rfl)
  simp only [Act.put, List.setIfInBounds_toArray, List.set_cons_zero, List.set_cons_succ]
  refine take_at (i := 6) (v := ?v49) rfl (by kernel_rfl) (by kernel_rfl) (by kernel_rfl) (fun _ _ _ h => h) (Or.inl ⟨by rfl, ?y49⟩) hHeld ?t49
  case y49 => (intro wx hSw; go_simp <;> with_reducible rfl)
  simp only [Act.put, List.setIfInBounds_toArray, List.set_cons_zero, List.set_cons_succ]
  refine take_at (i := 7) (v := ?v50) rfl (by kernel_rfl) (by kernel_rfl) (by kernel_rfl) (fun _ _ _ h => h) (Or.inl ⟨by rfl, ?y50⟩) hHeld ?t50
  case y50 => (intro wx hSw; go_simp <;> with_reducible rfl)
  simp only [Act.put, List.setIfInBounds_toArray, List.set_cons_zero, List.set_cons_succ]
  refine take_at (i := 9) (v := ?v51) rfl (by kernel_rfl) (by kernel_rfl) (by kernel_rfl) (fun _ _ _ h => h) (Or.inl ⟨by rfl, ?y51⟩) hHeld ?t51
  case y51 => (intro wx hSw; go_simp <;> with_reducible rfl)
  simp only [Act.put, List.setIfInBounds_toArray, List.set_cons_zero, List.set_cons_succ]
  refine call_at (i := 8) (by kernel_rfl) rfl (fun K hK => ?_)
  go_simp
  refine (rAdd_any b false G.n G.w _ f32.drew).mono ?_
  rintro e w33 ⟨rfl, f33, k33⟩
  rw [G.hnw] at f33 ⊢
  dsimp only at f33 ⊢
  have K33 : Kept b w w33 := Kept.trans K32.drew k33
  have B0_33 : Arr w.heap.size [.int .i64 o.1, .int .i64 o.2.1, .int .i64 o.2.2.1, .int .i64 o.2.2.2.1, .int .i64 o.2.2.2.2.1, .int .i64 o.2.2.2.2.2.1, .int .i64 o.2.2.2.2.2.2] w33 := B0_32.drew.kept k33 (Nat.ne_of_gt y1_BF)
  have B1_33 : Arr (w.heap.size + 1) [.int .i64 0, .int .i64 0, .int .i64 0] w33 := B1_32.drew.kept k33 (Nat.ne_of_gt y2_BF)
  have z33 := B1_33.lies
  clear hHeld
  refine hK.out _ _ B0_33 (fun hHeld => ?_)
  clear hK K K32 f32 B0_32 B1_32 k33
  refine call_at (i := 10) (by kernel_rfl) rfl (fun K hK => ?_)
  go_simp
  refine (rMul_any b false (G.n + G.w) (dt - da) _ f33).mono ?_
  rintro e w34 ⟨rfl, f34, k34⟩
  rw [G.hmm] at f34 ⊢
  dsimp only at f34 ⊢
  have K34 : Kept b w w34 := Kept.trans K33 k34
  have B0_34 : Arr w.heap.size [.int .i64 o.1, .int .i64 o.2.1, .int .i64 o.2.2.1, .int .i64 o.2.2.2.1, .int .i64 o.2.2.2.2.1, .int .i64 o.2.2.2.2.2.1, .int .i64 o.2.2.2.2.2.2] w34 := B0_33.kept k34 (Nat.ne_of_gt y1_BF)
  have B1_34 : Arr (w.heap.size + 1) [.int .i64 0, .int .i64 0, .int .i64 0] w34 := B1_33.kept k34 (Nat.ne_of_gt y2_BF)
  have z34 := B1_34.lies
  clear hHeld
  refine hK.out _ _ B0_34 (fun hHeld => ?_)
  clear hK K K33 f33 B0_33 B1_33 k34
  refine call_at (i := 11) (by kernel_rfl) rfl (fun K hK => ?_)
  go_simp
  refine (rAdd_any b false o.2.2.2.2.2.1 G.mm _ f34).mono ?_
  rintro e w35 ⟨rfl, f35, k35⟩
  rw [G.hMm] at f35 ⊢
  dsimp only at f35 ⊢
  have K35 : Kept b w w35 := Kept.trans K34 k35
  have B0_35 : Arr w.heap.size [.int .i64 o.1, .int .i64 o.2.1, .int .i64 o.2.2.1, .int .i64 o.2.2.2.1, .int .i64 o.2.2.2.2.1, .int .i64 o.2.2.2.2.2.1, .int .i64 o.2.2.2.2.2.2] w35 := B0_34.kept k35 (Nat.ne_of_gt y1_BF)
  have B1_35 : Arr (w.heap.size + 1) [.int .i64 0, .int .i64 0, .int .i64 0] w35 := B1_34.kept k35 (Nat.ne_of_gt y2_BF)
  have z35 := B1_35.lies
  clear hHeld
  refine hK.out _ _ B0_35 (fun hHeld => ?_)
  clear hK K K34 f34 B0_34 B1_34 k35
  refine call_at (i := 12) (by kernel_rfl) rfl (fun K hK => ?_)
  go_simp
  refine (rMod_any b false (o.2.2.2.2.2.1 + G.mm) 6908435304716 _ f35).mono ?_
  rintro e w36 ⟨rfl, f36, k36⟩
  rw [G.hm] at f36 ⊢
  dsimp only at f36 ⊢
  have K36 : Kept b w w36 := Kept.trans K35 k36
  have B0_36 : Arr w.heap.size [.int .i64 o.1, .int .i64 o.2.1, .int .i64 o.2.2.1, .int .i64 o.2.2.2.1, .int .i64 o.2.2.2.2.1, .int .i64 o.2.2.2.2.2.1, .int .i64 o.2.2.2.2.2.2] w36 := B0_35.kept k36 (Nat.ne_of_gt y1_BF)
  have B1_36 : Arr (w.heap.size + 1) [.int .i64 0, .int .i64 0, .int .i64 0] w36 := B1_35.kept k36 (Nat.ne_of_gt y2_BF)
  have z36 := B1_36.lies
  clear hHeld
  refine hK.out _ _ B0_36 (fun hHeld => ?_)
  clear hK K K35 f35 B0_35 B1_35 k36
  refine take_at (i := 13) (v := ?v52) rfl (by kernel_rfl) (by kernel_rfl) (by kernel_rfl) (fun _ _ _ h => h) (Or.inl ⟨by rfl, ?y52⟩) hHeld ?t52
  case y52 => (intro wx hSw; go_simp <;> with_reducible rfl)
  simp only [Act.put, List.setIfInBounds_toArray, List.set_cons_zero, List.set_cons_succ]
  refine wpAnyH_done (by kernel_rfl) ?_ _
  clear hHeld
  have c23_B0_1 : w36.cell? ⟨w.heap.size, 1, none⟩ = some (.int .i64 o.2.1) := B0_36.c 1 (of_decide_eq_true rfl)
  go_wp2_with fail
  refine (pKep_any b false ((o.2.2.2.2.2.1 + G.mm) % 6908435304716) o.2.1 _ f36).mono ?_
  rintro e w37 ⟨rfl, f37, k37⟩
  rw [hx] at f37 ⊢
  dsimp only at f37 ⊢
  have K37 : Kept b w w37 := Kept.trans K36 k37
  have B0_37 : Arr w.heap.size [.int .i64 o.1, .int .i64 o.2.1, .int .i64 o.2.2.1, .int .i64 o.2.2.2.1, .int .i64 o.2.2.2.2.1, .int .i64 o.2.2.2.2.2.1, .int .i64 o.2.2.2.2.2.2] w37 := B0_36.kept k37 (Nat.ne_of_gt y1_BF)
  have B1_37 : Arr (w.heap.size + 1) [.int .i64 0, .int .i64 0, .int .i64 0] w37 := B1_36.kept k37 (Nat.ne_of_gt y2_BF)
  have z37 := B1_37.lies
  clear c23_B0_1 K36 f36 B0_36 B1_36 k37
  go_wp2_with fail
  refine wp_region_held_drew (S := fun w' => Arr w.heap.size [.int .i64 o.1, .int .i64 o.2.1, .int .i64 o.2.2.1, .int .i64 o.2.2.2.1, .int .i64 o.2.2.2.2.1, .int .i64 o.2.2.2.2.2.1, .int .i64 o.2.2.2.2.2.2] w') (by kernel_rfl) B0_37.drew (fun hHeld => ?_)
  refine take_at (i := 0) (v := ?v53) rfl (by kernel_rfl) (by kernel_rfl) (by kernel_rfl) (fun _ _ _ h => h) (Or.inl ⟨by rfl, ?y53⟩) hHeld ?t53
  case y53 => (intro wx hSw; go_simp <;> with_reducible rfl)
  simp only [Act.put, List.setIfInBounds_toArray, List.set_cons_zero, List.set_cons_succ]
  refine take_at (i := 1) (v := ?v54) rfl (by kernel_rfl) (by kernel_rfl) (by kernel_rfl) (fun _ _ _ h => h) (Or.inl ⟨by rfl, ?y54⟩) hHeld ?t54
  case y54 => (intro wx hSw; go_simp <;> with_reducible rfl)
  simp only [Act.put, List.setIfInBounds_toArray, List.set_cons_zero, List.set_cons_succ]
  refine take_at (i := 2) (v := ?v55) rfl (by kernel_rfl) (by kernel_rfl) (by kernel_rfl) (fun _ _ _ h => h) (Or.inl ⟨by rfl, ?y55⟩) hHeld ?t55
  case y55 => (intro wx hSw; have hc0 : wx.cell? ⟨w.heap.size, 0, none⟩ = some (.int .i64 o.1) := hSw.c 0 (of_decide_eq_true rfl); go_simp <;> with_reducible rfl)
  simp only [Act.put, List.setIfInBounds_toArray, List.set_cons_zero, List.set_cons_succ]
  refine take_at (i := 3) (v := ?v56) rfl (by kernel_rfl) (by kernel_rfl) (by kernel_rfl) (fun _ _ _ h => h) (Or.inl ⟨by rfl, ?y56⟩) hHeld ?t56
  case y56 => (intro wx hSw; go_simp <;> with_reducible rfl)
  simp only [Act.put, List.setIfInBounds_toArray, List.set_cons_zero, List.set_cons_succ]
  refine take_at (i := 4) (v := ?v57) rfl (by kernel_rfl) (by kernel_rfl) (by kernel_rfl) (fun _ _ _ h => h) (Or.inl ⟨by rfl, ?y57⟩) hHeld ?t57
  case y57 => (intro wx hSw; go_simp <;> with_reducible rfl)
  simp only [Act.put, List.setIfInBounds_toArray, List.set_cons_zero, List.set_cons_succ]
  refine take_at (i := 5) (v := ?v58) rfl (by kernel_rfl) (by kernel_rfl) (by kernel_rfl) (fun _ _ _ h => h) (Or.inl ⟨by rfl, ?y58⟩) hHeld ?t58
  case y58 => (intro wx hSw; go_simp <;> with_reducible rfl)
  simp only [Act.put, List.setIfInBounds_toArray, List.set_cons_zero, List.set_cons_succ]
  refine take_at (i := 7) (v := ?v59) rfl (by kernel_rfl) (by kernel_rfl) (by kernel_rfl) (fun _ _ _ h => h) (Or.inl ⟨by rfl, ?y59⟩) hHeld ?t59
  case y59 => (intro wx hSw; go_simp <;> with_reducible rfl)
  simp only [Act.put, List.setIfInBounds_toArray, List.set_cons_zero, List.set_cons_succ]
  refine take_at (i := 8) (v := ?v60) rfl (by kernel_rfl) (by kernel_rfl) (by kernel_rfl) (fun _ _ _ h => h) (Or.inl ⟨by rfl, ?y60⟩) hHeld ?t60
  case y60 => (intro wx hSw; have hc1 : wx.cell? ⟨w.heap.size, 1, none⟩ = some (.int .i64 o.2.1) := hSw.c 1 (of_decide_eq_true rfl); go_simp <;> with_reducible rfl)
  simp only [Act.put, List.setIfInBounds_toArray, List.set_cons_zero, List.set_cons_succ]
  refine call_at (i := 6) (by kernel_rfl) rfl (fun K hK => ?_)
  go_simp
  refine (rCos_any b false x _ f37.drew).mono ?_
  rintro e w38 ⟨rfl, f38, k38⟩
  rw [Q.hcx] at f38 ⊢
  dsimp only at f38 ⊢
  have K38 : Kept b w w38 := Kept.trans K37.drew k38
  have B0_38 : Arr w.heap.size [.int .i64 o.1, .int .i64 o.2.1, .int .i64 o.2.2.1, .int .i64 o.2.2.2.1, .int .i64 o.2.2.2.2.1, .int .i64 o.2.2.2.2.2.1, .int .i64 o.2.2.2.2.2.2] w38 := B0_37.drew.kept k38 (Nat.ne_of_gt y1_BF)
  have B1_38 : Arr (w.heap.size + 1) [.int .i64 0, .int .i64 0, .int .i64 0] w38 := B1_37.drew.kept k38 (Nat.ne_of_gt y2_BF)
  have z38 := B1_38.lies
  clear hHeld
  refine hK.out _ _ B0_38 (fun hHeld => ?_)
  clear hK K K37 f37 B0_37 B1_37 k38
  refine call_at (i := 9) (by kernel_rfl) rfl (fun K hK => ?_)
  go_simp
  refine (rSub_any b false Q.cx o.2.1 _ f38).mono ?_
  rintro e w39 ⟨rfl, f39, k39⟩
  rw [Q.hce] at f39 ⊢
  dsimp only at f39 ⊢
  have K39 : Kept b w w39 := Kept.trans K38 k39
  have B0_39 : Arr w.heap.size [.int .i64 o.1, .int .i64 o.2.1, .int .i64 o.2.2.1, .int .i64 o.2.2.2.1, .int .i64 o.2.2.2.2.1, .int .i64 o.2.2.2.2.2.1, .int .i64 o.2.2.2.2.2.2] w39 := B0_38.kept k39 (Nat.ne_of_gt y1_BF)
  have B1_39 : Arr (w.heap.size + 1) [.int .i64 0, .int .i64 0, .int .i64 0] w39 := B1_38.kept k39 (Nat.ne_of_gt y2_BF)
  have z39 := B1_39.lies
  clear hHeld
  refine hK.out _ _ B0_39 (fun hHeld => ?_)
  clear hK K K38 f38 B0_38 B1_38 k39
  refine call_at (i := 10) (by kernel_rfl) rfl (fun K hK => ?_)
  go_simp
  refine (rMul_any b false o.1 (Q.cx - o.2.1) _ f39).mono ?_
  rintro e w40 ⟨rfl, f40, k40⟩
  rw [Q.hu] at f40 ⊢
  dsimp only at f40 ⊢
  have K40 : Kept b w w40 := Kept.trans K39 k40
  have B0_40 : Arr w.heap.size [.int .i64 o.1, .int .i64 o.2.1, .int .i64 o.2.2.1, .int .i64 o.2.2.2.1, .int .i64 o.2.2.2.2.1, .int .i64 o.2.2.2.2.2.1, .int .i64 o.2.2.2.2.2.2] w40 := B0_39.kept k40 (Nat.ne_of_gt y1_BF)
  have B1_40 : Arr (w.heap.size + 1) [.int .i64 0, .int .i64 0, .int .i64 0] w40 := B1_39.kept k40 (Nat.ne_of_gt y2_BF)
  have z40 := B1_40.lies
  clear hHeld
  refine hK.out _ _ B0_40 (fun hHeld => ?_)
  clear hK K K39 f39 B0_39 B1_39 k40
  refine take_at (i := 11) (v := ?v61) rfl (by kernel_rfl) (by kernel_rfl) (by kernel_rfl) (fun _ _ _ h => h) (Or.inl ⟨by rfl, ?y61⟩) hHeld ?t61
  case y61 => (intro wx hSw; go_simp <;> with_reducible rfl)
  simp only [Act.put, List.setIfInBounds_toArray, List.set_cons_zero, List.set_cons_succ]
  refine wpAnyH_done (by kernel_rfl) ?_ _
  clear hHeld
  have c25_B0_0 : w40.cell? ⟨w.heap.size, 0, none⟩ = some (.int .i64 o.1) := B0_40.c 0 (of_decide_eq_true rfl)
  go_wp2_with fail
  refine (rMul_any b false o.1 G.r _ f40).mono ?_
  rintro e w41 ⟨rfl, f41, k41⟩
  rw [Q.hw1] at f41 ⊢
  dsimp only at f41 ⊢
  have K41 : Kept b w w41 := Kept.trans K40 k41
  have B0_41 : Arr w.heap.size [.int .i64 o.1, .int .i64 o.2.1, .int .i64 o.2.2.1, .int .i64 o.2.2.2.1, .int .i64 o.2.2.2.2.1, .int .i64 o.2.2.2.2.2.1, .int .i64 o.2.2.2.2.2.2] w41 := B0_40.kept k41 (Nat.ne_of_gt y1_BF)
  have B1_41 : Arr (w.heap.size + 1) [.int .i64 0, .int .i64 0, .int .i64 0] w41 := B1_40.kept k41 (Nat.ne_of_gt y2_BF)
  have z41 := B1_41.lies
  clear c25_B0_0 K40 f40 B0_40 B1_40 k41
  go_wp2_with fail
  refine (rSin_any b false x _ f41).mono ?_
  rintro e w42 ⟨rfl, f42, k42⟩
  rw [Q.hsx] at f42 ⊢
  dsimp only at f42 ⊢
  have K42 : Kept b w w42 := Kept.trans K41 k42
  have B0_42 : Arr w.heap.size [.int .i64 o.1, .int .i64 o.2.1, .int .i64 o.2.2.1, .int .i64 o.2.2.2.1, .int .i64 o.2.2.2.2.1, .int .i64 o.2.2.2.2.2.1, .int .i64 o.2.2.2.2.2.2] w42 := B0_41.kept k42 (Nat.ne_of_gt y1_BF)
  have B1_42 : Arr (w.heap.size + 1) [.int .i64 0, .int .i64 0, .int .i64 0] w42 := B1_41.kept k42 (Nat.ne_of_gt y2_BF)
  have z42 := B1_42.lies
  clear K41 f41 B0_41 B1_41 k42
  go_wp2_with fail
  refine (rMul_any b false Q.w1 Q.sx _ f42).mono ?_
  rintro e w43 ⟨rfl, f43, k43⟩
  rw [Q.hv] at f43 ⊢
  dsimp only at f43 ⊢
  have K43 : Kept b w w43 := Kept.trans K42 k43
  have B0_43 : Arr w.heap.size [.int .i64 o.1, .int .i64 o.2.1, .int .i64 o.2.2.1, .int .i64 o.2.2.2.1, .int .i64 o.2.2.2.2.1, .int .i64 o.2.2.2.2.2.1, .int .i64 o.2.2.2.2.2.2] w43 := B0_42.kept k43 (Nat.ne_of_gt y1_BF)
  have B1_43 : Arr (w.heap.size + 1) [.int .i64 0, .int .i64 0, .int .i64 0] w43 := B1_42.kept k43 (Nat.ne_of_gt y2_BF)
  have z43 := B1_43.lies
  clear K42 f42 B0_42 B1_42 k43
  go_wp2_with fail
  refine (rCos_any b false (o.2.2.2.2.1 + G.kyd) _ f43).mono ?_
  rintro e w44 ⟨rfl, f44, k44⟩
  rw [Q.hcq] at f44 ⊢
  dsimp only at f44 ⊢
  have K44 : Kept b w w44 := Kept.trans K43 k44
  have B0_44 : Arr w.heap.size [.int .i64 o.1, .int .i64 o.2.1, .int .i64 o.2.2.1, .int .i64 o.2.2.2.1, .int .i64 o.2.2.2.2.1, .int .i64 o.2.2.2.2.2.1, .int .i64 o.2.2.2.2.2.2] w44 := B0_43.kept k44 (Nat.ne_of_gt y1_BF)
  have B1_44 : Arr (w.heap.size + 1) [.int .i64 0, .int .i64 0, .int .i64 0] w44 := B1_43.kept k44 (Nat.ne_of_gt y2_BF)
  have z44 := B1_44.lies
  clear K43 f43 B0_43 B1_43 k44
  go_wp2_with fail
  refine (rSin_any b false (o.2.2.2.2.1 + G.kyd) _ f44).mono ?_
  rintro e w45 ⟨rfl, f45, k45⟩
  rw [Q.hsq] at f45 ⊢
  dsimp only at f45 ⊢
  have K45 : Kept b w w45 := Kept.trans K44 k45
  have B0_45 : Arr w.heap.size [.int .i64 o.1, .int .i64 o.2.1, .int .i64 o.2.2.1, .int .i64 o.2.2.2.1, .int .i64 o.2.2.2.2.1, .int .i64 o.2.2.2.2.2.1, .int .i64 o.2.2.2.2.2.2] w45 := B0_44.kept k45 (Nat.ne_of_gt y1_BF)
  have B1_45 : Arr (w.heap.size + 1) [.int .i64 0, .int .i64 0, .int .i64 0] w45 := B1_44.kept k45 (Nat.ne_of_gt y2_BF)
  have z45 := B1_45.lies
  clear K44 f44 B0_44 B1_44 k45
  go_wp2_with fail
  refine (rMul_any b false Q.u Q.cq _ f45).mono ?_
  rintro e w46 ⟨rfl, f46, k46⟩
  rw [Q.h1] at f46 ⊢
  dsimp only at f46 ⊢
  have K46 : Kept b w w46 := Kept.trans K45 k46
  have B0_46 : Arr w.heap.size [.int .i64 o.1, .int .i64 o.2.1, .int .i64 o.2.2.1, .int .i64 o.2.2.2.1, .int .i64 o.2.2.2.2.1, .int .i64 o.2.2.2.2.2.1, .int .i64 o.2.2.2.2.2.2] w46 := B0_45.kept k46 (Nat.ne_of_gt y1_BF)
  have B1_46 : Arr (w.heap.size + 1) [.int .i64 0, .int .i64 0, .int .i64 0] w46 := B1_45.kept k46 (Nat.ne_of_gt y2_BF)
  have z46 := B1_46.lies
  clear K45 f45 B0_45 B1_45 k46
  go_wp2_with fail
  refine (rMul_any b false Q.v Q.sq _ f46).mono ?_
  rintro e w47 ⟨rfl, f47, k47⟩
  rw [Q.h2] at f47 ⊢
  dsimp only at f47 ⊢
  have K47 : Kept b w w47 := Kept.trans K46 k47
  have B0_47 : Arr w.heap.size [.int .i64 o.1, .int .i64 o.2.1, .int .i64 o.2.2.1, .int .i64 o.2.2.2.1, .int .i64 o.2.2.2.2.1, .int .i64 o.2.2.2.2.2.1, .int .i64 o.2.2.2.2.2.2] w47 := B0_46.kept k47 (Nat.ne_of_gt y1_BF)
  have B1_47 : Arr (w.heap.size + 1) [.int .i64 0, .int .i64 0, .int .i64 0] w47 := B1_46.kept k47 (Nat.ne_of_gt y2_BF)
  have z47 := B1_47.lies
  clear K46 f46 B0_46 B1_46 k47
  go_wp2_with fail
  refine (rSub_any b false Q.m1 Q.m2 _ f47).mono ?_
  rintro e w48 ⟨rfl, f48, k48⟩
  rw [Q.ha] at f48 ⊢
  dsimp only at f48 ⊢
  have K48 : Kept b w w48 := Kept.trans K47 k48
  have B0_48 : Arr w.heap.size [.int .i64 o.1, .int .i64 o.2.1, .int .i64 o.2.2.1, .int .i64 o.2.2.2.1, .int .i64 o.2.2.2.2.1, .int .i64 o.2.2.2.2.2.1, .int .i64 o.2.2.2.2.2.2] w48 := B0_47.kept k48 (Nat.ne_of_gt y1_BF)
  have B1_48 : Arr (w.heap.size + 1) [.int .i64 0, .int .i64 0, .int .i64 0] w48 := B1_47.kept k48 (Nat.ne_of_gt y2_BF)
  have z48 := B1_48.lies
  clear K47 f47 B0_47 B1_47 k48
  go_wp2_with fail
  refine (rMul_any b false Q.u Q.sq _ f48).mono ?_
  rintro e w49 ⟨rfl, f49, k49⟩
  rw [Q.h3] at f49 ⊢
  dsimp only at f49 ⊢
  have K49 : Kept b w w49 := Kept.trans K48 k49
  have B0_49 : Arr w.heap.size [.int .i64 o.1, .int .i64 o.2.1, .int .i64 o.2.2.1, .int .i64 o.2.2.2.1, .int .i64 o.2.2.2.2.1, .int .i64 o.2.2.2.2.2.1, .int .i64 o.2.2.2.2.2.2] w49 := B0_48.kept k49 (Nat.ne_of_gt y1_BF)
  have B1_49 : Arr (w.heap.size + 1) [.int .i64 0, .int .i64 0, .int .i64 0] w49 := B1_48.kept k49 (Nat.ne_of_gt y2_BF)
  have z49 := B1_49.lies
  clear K48 f48 B0_48 B1_48 k49
  go_wp2_with fail
  refine (rMul_any b false Q.v Q.cq _ f49).mono ?_
  rintro e w50 ⟨rfl, f50, k50⟩
  rw [Q.h4] at f50 ⊢
  dsimp only at f50 ⊢
  have K50 : Kept b w w50 := Kept.trans K49 k50
  have B0_50 : Arr w.heap.size [.int .i64 o.1, .int .i64 o.2.1, .int .i64 o.2.2.1, .int .i64 o.2.2.2.1, .int .i64 o.2.2.2.2.1, .int .i64 o.2.2.2.2.2.1, .int .i64 o.2.2.2.2.2.2] w50 := B0_49.kept k50 (Nat.ne_of_gt y1_BF)
  have B1_50 : Arr (w.heap.size + 1) [.int .i64 0, .int .i64 0, .int .i64 0] w50 := B1_49.kept k50 (Nat.ne_of_gt y2_BF)
  have z50 := B1_50.lies
  clear K49 f49 B0_49 B1_49 k50
  go_wp2_with fail
  refine (rAdd_any b false Q.m3 Q.m4 _ f50).mono ?_
  rintro e w51 ⟨rfl, f51, k51⟩
  rw [Q.hb] at f51 ⊢
  dsimp only at f51 ⊢
  have K51 : Kept b w w51 := Kept.trans K50 k51
  have B0_51 : Arr w.heap.size [.int .i64 o.1, .int .i64 o.2.1, .int .i64 o.2.2.1, .int .i64 o.2.2.2.1, .int .i64 o.2.2.2.2.1, .int .i64 o.2.2.2.2.2.1, .int .i64 o.2.2.2.2.2.2] w51 := B0_50.kept k51 (Nat.ne_of_gt y1_BF)
  have B1_51 : Arr (w.heap.size + 1) [.int .i64 0, .int .i64 0, .int .i64 0] w51 := B1_50.kept k51 (Nat.ne_of_gt y2_BF)
  have z51 := B1_51.lies
  clear K50 f50 B0_50 B1_50 k51
  go_wp2_with fail
  refine (rCos_any b false (o.2.2.2.1 - G.kcd) _ f51).mono ?_
  rintro e w52 ⟨rfl, f52, k52⟩
  rw [Q.hcn] at f52 ⊢
  dsimp only at f52 ⊢
  have K52 : Kept b w w52 := Kept.trans K51 k52
  have B0_52 : Arr w.heap.size [.int .i64 o.1, .int .i64 o.2.1, .int .i64 o.2.2.1, .int .i64 o.2.2.2.1, .int .i64 o.2.2.2.2.1, .int .i64 o.2.2.2.2.2.1, .int .i64 o.2.2.2.2.2.2] w52 := B0_51.kept k52 (Nat.ne_of_gt y1_BF)
  have B1_52 : Arr (w.heap.size + 1) [.int .i64 0, .int .i64 0, .int .i64 0] w52 := B1_51.kept k52 (Nat.ne_of_gt y2_BF)
  have z52 := B1_52.lies
  clear K51 f51 B0_51 B1_51 k52
  go_wp2_with fail
  refine (rSin_any b false (o.2.2.2.1 - G.kcd) _ f52).mono ?_
  rintro e w53 ⟨rfl, f53, k53⟩
  rw [Q.hsn] at f53 ⊢
  dsimp only at f53 ⊢
  have K53 : Kept b w w53 := Kept.trans K52 k53
  have B0_53 : Arr w.heap.size [.int .i64 o.1, .int .i64 o.2.1, .int .i64 o.2.2.1, .int .i64 o.2.2.2.1, .int .i64 o.2.2.2.2.1, .int .i64 o.2.2.2.2.2.1, .int .i64 o.2.2.2.2.2.2] w53 := B0_52.kept k53 (Nat.ne_of_gt y1_BF)
  have B1_53 : Arr (w.heap.size + 1) [.int .i64 0, .int .i64 0, .int .i64 0] w53 := B1_52.kept k53 (Nat.ne_of_gt y2_BF)
  have z53 := B1_53.lies
  clear K52 f52 B0_52 B1_52 k53
  go_wp2_with fail
  refine (rMul_any b false (Q.m1 - Q.m2) Q.cn _ f53).mono ?_
  rintro e w54 ⟨rfl, f54, k54⟩
  rw [Q.h5] at f54 ⊢
  dsimp only at f54 ⊢
  have K54 : Kept b w w54 := Kept.trans K53 k54
  have B0_54 : Arr w.heap.size [.int .i64 o.1, .int .i64 o.2.1, .int .i64 o.2.2.1, .int .i64 o.2.2.2.1, .int .i64 o.2.2.2.2.1, .int .i64 o.2.2.2.2.2.1, .int .i64 o.2.2.2.2.2.2] w54 := B0_53.kept k54 (Nat.ne_of_gt y1_BF)
  have B1_54 : Arr (w.heap.size + 1) [.int .i64 0, .int .i64 0, .int .i64 0] w54 := B1_53.kept k54 (Nat.ne_of_gt y2_BF)
  have z54 := B1_54.lies
  clear K53 f53 B0_53 B1_53 k54
  go_wp2_with fail
  refine (rMul_any b false (Q.m3 + Q.m4) G.c _ f54).mono ?_
  rintro e w55 ⟨rfl, f55, k55⟩
  rw [Q.hbc] at f55 ⊢
  dsimp only at f55 ⊢
  have K55 : Kept b w w55 := Kept.trans K54 k55
  have B0_55 : Arr w.heap.size [.int .i64 o.1, .int .i64 o.2.1, .int .i64 o.2.2.1, .int .i64 o.2.2.2.1, .int .i64 o.2.2.2.2.1, .int .i64 o.2.2.2.2.2.1, .int .i64 o.2.2.2.2.2.2] w55 := B0_54.kept k55 (Nat.ne_of_gt y1_BF)
  have B1_55 : Arr (w.heap.size + 1) [.int .i64 0, .int .i64 0, .int .i64 0] w55 := B1_54.kept k55 (Nat.ne_of_gt y2_BF)
  have z55 := B1_55.lies
  clear K54 f54 B0_54 B1_54 k55
  go_wp2_with fail
  refine (rMul_any b false Q.bc Q.sn _ f55).mono ?_
  rintro e w56 ⟨rfl, f56, k56⟩
  rw [Q.h6] at f56 ⊢
  dsimp only at f56 ⊢
  have K56 : Kept b w w56 := Kept.trans K55 k56
  have B0_56 : Arr w.heap.size [.int .i64 o.1, .int .i64 o.2.1, .int .i64 o.2.2.1, .int .i64 o.2.2.2.1, .int .i64 o.2.2.2.2.1, .int .i64 o.2.2.2.2.2.1, .int .i64 o.2.2.2.2.2.2] w56 := B0_55.kept k56 (Nat.ne_of_gt y1_BF)
  have B1_56 : Arr (w.heap.size + 1) [.int .i64 0, .int .i64 0, .int .i64 0] w56 := B1_55.kept k56 (Nat.ne_of_gt y2_BF)
  have z56 := B1_56.lies
  clear K55 f55 B0_55 B1_55 k56
  go_wp2_with fail
  refine (rSub_any b false Q.m5 Q.m6 _ f56).mono ?_
  rintro e w57 ⟨rfl, f57, k57⟩
  rw [Q.hX] at f57 ⊢
  dsimp only at f57 ⊢
  have K57 : Kept b w w57 := Kept.trans K56 k57
  have B0_57 : Arr w.heap.size [.int .i64 o.1, .int .i64 o.2.1, .int .i64 o.2.2.1, .int .i64 o.2.2.2.1, .int .i64 o.2.2.2.2.1, .int .i64 o.2.2.2.2.2.1, .int .i64 o.2.2.2.2.2.2] w57 := B0_56.kept k57 (Nat.ne_of_gt y1_BF)
  have B1_57 : Arr (w.heap.size + 1) [.int .i64 0, .int .i64 0, .int .i64 0] w57 := B1_56.kept k57 (Nat.ne_of_gt y2_BF)
  have z57 := B1_57.lies
  clear K56 f56 B0_56 B1_56 k57
  go_wp2_with fail
  refine (rMul_any b false (Q.m1 - Q.m2) Q.sn _ f57).mono ?_
  rintro e w58 ⟨rfl, f58, k58⟩
  rw [Q.h7] at f58 ⊢
  dsimp only at f58 ⊢
  have K58 : Kept b w w58 := Kept.trans K57 k58
  have B0_58 : Arr w.heap.size [.int .i64 o.1, .int .i64 o.2.1, .int .i64 o.2.2.1, .int .i64 o.2.2.2.1, .int .i64 o.2.2.2.2.1, .int .i64 o.2.2.2.2.2.1, .int .i64 o.2.2.2.2.2.2] w58 := B0_57.kept k58 (Nat.ne_of_gt y1_BF)
  have B1_58 : Arr (w.heap.size + 1) [.int .i64 0, .int .i64 0, .int .i64 0] w58 := B1_57.kept k58 (Nat.ne_of_gt y2_BF)
  have z58 := B1_58.lies
  clear K57 f57 B0_57 B1_57 k58
  go_wp2_with fail
  refine (rMul_any b false (Q.m3 + Q.m4) G.c _ f58).mono ?_
  rintro e w59 ⟨rfl, f59, k59⟩
  rw [Q.hbc] at f59 ⊢
  dsimp only at f59 ⊢
  have K59 : Kept b w w59 := Kept.trans K58 k59
  have B0_59 : Arr w.heap.size [.int .i64 o.1, .int .i64 o.2.1, .int .i64 o.2.2.1, .int .i64 o.2.2.2.1, .int .i64 o.2.2.2.2.1, .int .i64 o.2.2.2.2.2.1, .int .i64 o.2.2.2.2.2.2] w59 := B0_58.kept k59 (Nat.ne_of_gt y1_BF)
  have B1_59 : Arr (w.heap.size + 1) [.int .i64 0, .int .i64 0, .int .i64 0] w59 := B1_58.kept k59 (Nat.ne_of_gt y2_BF)
  have z59 := B1_59.lies
  clear K58 f58 B0_58 B1_58 k59
  go_wp2_with fail
  refine (rMul_any b false Q.bc Q.cn _ f59).mono ?_
  rintro e w60 ⟨rfl, f60, k60⟩
  rw [Q.h8] at f60 ⊢
  dsimp only at f60 ⊢
  have K60 : Kept b w w60 := Kept.trans K59 k60
  have B0_60 : Arr w.heap.size [.int .i64 o.1, .int .i64 o.2.1, .int .i64 o.2.2.1, .int .i64 o.2.2.2.1, .int .i64 o.2.2.2.2.1, .int .i64 o.2.2.2.2.2.1, .int .i64 o.2.2.2.2.2.2] w60 := B0_59.kept k60 (Nat.ne_of_gt y1_BF)
  have B1_60 : Arr (w.heap.size + 1) [.int .i64 0, .int .i64 0, .int .i64 0] w60 := B1_59.kept k60 (Nat.ne_of_gt y2_BF)
  have z60 := B1_60.lies
  clear K59 f59 B0_59 B1_59 k60
  go_wp2_with fail
  refine (rAdd_any b false Q.m7 Q.m8 _ f60).mono ?_
  rintro e w61 ⟨rfl, f61, k61⟩
  rw [Q.hY] at f61 ⊢
  dsimp only at f61 ⊢
  have K61 : Kept b w w61 := Kept.trans K60 k61
  have B0_61 : Arr w.heap.size [.int .i64 o.1, .int .i64 o.2.1, .int .i64 o.2.2.1, .int .i64 o.2.2.2.1, .int .i64 o.2.2.2.2.1, .int .i64 o.2.2.2.2.2.1, .int .i64 o.2.2.2.2.2.2] w61 := B0_60.kept k61 (Nat.ne_of_gt y1_BF)
  have B1_61 : Arr (w.heap.size + 1) [.int .i64 0, .int .i64 0, .int .i64 0] w61 := B1_60.kept k61 (Nat.ne_of_gt y2_BF)
  have z61 := B1_61.lies
  clear K60 f60 B0_60 B1_60 k61
  go_wp2_with fail
  refine (rMul_any b false (Q.m3 + Q.m4) G.s _ f61).mono ?_
  rintro e w62 ⟨rfl, f62, k62⟩
  rw [Q.hz] at f62 ⊢
  dsimp only at f62 ⊢
  have K62 : Kept b w w62 := Kept.trans K61 k62
  have B0_62 : Arr w.heap.size [.int .i64 o.1, .int .i64 o.2.1, .int .i64 o.2.2.1, .int .i64 o.2.2.2.1, .int .i64 o.2.2.2.2.1, .int .i64 o.2.2.2.2.2.1, .int .i64 o.2.2.2.2.2.2] w62 := B0_61.kept k62 (Nat.ne_of_gt y1_BF)
  have B1_62 : Arr (w.heap.size + 1) [.int .i64 0, .int .i64 0, .int .i64 0] w62 := B1_61.kept k62 (Nat.ne_of_gt y2_BF)
  have z62 := B1_62.lies
  clear K61 f61 B0_61 B1_61 k62
  have y3_BF : b < w62.heap.size := f62.lies
  have y3_B0 : w.heap.size < w62.heap.size := B0_62.lies
  have y3_B1 : w.heap.size + 1 < w62.heap.size := B1_62.lies
  have c47_B1_0 : w62.cell? ⟨w.heap.size + 1, 0, none⟩ = some (.int .i64 0) := B1_62.c 0 (of_decide_eq_true rfl)
  have c47_B1_1 : w62.cell? ⟨w.heap.size + 1, 1, none⟩ = some (.int .i64 0) := B1_62.c 1 (of_decide_eq_true rfl)
  have c47_B1_2 : w62.cell? ⟨w.heap.size + 1, 2, none⟩ = some (.int .i64 0) := B1_62.c 2 (of_decide_eq_true rfl)
  have c47_BF := f62.cell
  have g47_B1_0 := B1_62.f 0 (of_decide_eq_true rfl)
  have g47_B1_1 := B1_62.f 1 (of_decide_eq_true rfl)
  have g47_B1_2 := B1_62.f 2 (of_decide_eq_true rfl)
  have l47_B1 := B1_62.lies
  have l47_BF := f62.lies
  go_wp2_with (with_reducible refine post_stop ?_)
  refine Stop.mk ?_
  clear c47_B1_0 c47_B1_1 c47_B1_2 c47_BF g47_B1_0 g47_B1_1 g47_B1_2 l47_B1 l47_BF
  refine bodyPost_ret (v := .agg #[.int .i64 (Q.m5 - Q.m6), .int .i64 (Q.m7 + Q.m8), .int .i64 Q.z]) (results_arr Try.results15 ((((B1_62.put 0 (of_decide_eq_true rfl) (.int .i64 (Q.m5 - Q.m6)) [.int .i64 (Q.m5 - Q.m6), .int .i64 0, .int .i64 0] rfl).put 1 (of_decide_eq_true rfl) (.int .i64 (Q.m7 + Q.m8)) [.int .i64 (Q.m5 - Q.m6), .int .i64 (Q.m7 + Q.m8), .int .i64 0] rfl).put 2 (of_decide_eq_true rfl) (.int .i64 Q.z) [.int .i64 (Q.m5 - Q.m6), .int .i64 (Q.m7 + Q.m8), .int .i64 Q.z] rfl).alloc _) rfl (by kernel_rfl) (by kernel_rfl)) rfl ?_
  exact ⟨rfl, ((((f62.new (w.heap.size + 1) 0 (Nat.ne_of_lt y2_BF) (.int .i64 (Q.m5 - Q.m6))).new (w.heap.size + 1) 1 (Nat.ne_of_lt y2_BF) (.int .i64 (Q.m7 + Q.m8))).new (w.heap.size + 1) 2 (Nat.ne_of_lt y2_BF) (.int .i64 Q.z)).alloc _), ((((K62.new _ _ (by omega) _).new _ _ (by omega) _).new _ _ (by omega) _).al _)⟩
theorem pPlace_any (b : Nat) (bad : Bool) (o : V7) (t : Int) (w : World) (hw : Fl b bad w) :
    Calls Try.prog 15 #[.pointer (some ⟨b, 0, none⟩), .agg #[.int .i64 o.1, .int .i64 o.2.1, .int .i64 o.2.2.1, .int .i64 o.2.2.2.1, .int .i64 o.2.2.2.2.1, .int .i64 o.2.2.2.2.2.1, .int .i64 o.2.2.2.2.2.2], .int .i64 t] w fun e w' => e = .returned (.agg #[.int .i64 ((placeS bad o t).1.1), .int .i64 ((placeS bad o t).1.2.1), .int .i64 ((placeS bad o t).1.2.2)]) ∧ Fl b (placeS bad o t).2 w' ∧ Kept b w w' := by
  rcases placeS_cases bad o t with ⟨hr, e⟩ | ⟨hr, ht, e⟩ | ⟨hr, ht, hb, e⟩ | ⟨hr, ht, hb, L⟩
  · rw [e]; exact pPlace_n1 b bad o t w hw hr
  · rw [e]; exact pPlace_n2 b bad o t w hw hr ht
  · subst hb; rw [e]; exact pPlace_bad b o t w hw hr ht
  · subst hb
    obtain ⟨⟨dt, da, hdt, hda, hd, G, x, hx, Q, e⟩⟩ := L
    rw [e]; exact pPlace_good b o t w hw hr ht dt da hdt hda hd G x hx Q
end Go.Proofs.Ytmjkmbhaemencaa
