/-
  Walks of package alidaderef06, for the seat YtpjobkbefgehjaaGreat. (Made by mkref06.py.)
  Walks of package alidaderef06, for the seat YtpjobkbefgehjaaGreat. (Made by mkref06.py.)
  Walks of package alidaderef06, for the seat YtpjobkbefgehjaaGreat. (Made by mkref06.py.)
  Walks of package alidaderef06, for the seat YtpjobkbefgehjaaGreat. (Made by mkref06.py.)
  Walks of package alidaderef06, for the seat YtpjobkbefgehjaaGreat. (Made by mkref06.py.)
  Roots, and what is solved by them, of six rows, in flows that are good or bad, for the seat YtpjobkbefgehjaaGreat.
-/
import Derived.Test.YtpjobkbefgehjaaGreatJS
import Derived.Test.YtpjobkbefgehjaaGreatJT
import Derived.Handy
import Derived.Deep.RegionHeld3
namespace Go.Proofs.YtpjobkbefgehjaaGreat
open Go.RowKit

set_option maxRecDepth 100000 in
set_option maxHeartbeats 2000000 in
theorem zsize_any (b : Nat) (bad : Bool) (n : Int) (w : World) (hw : Fl b bad w) :
  Calls Tryz.prog 105 #[.pointer (some ⟨b, 0, none⟩), .int .i64 n] w fun e w' => e = .returned (.bool ((zsizeS bad n).1)) ∧ Fl b (zsizeS bad n).2 w' ∧ Kept b w w' := by
 have hl := hw.lies
 go_enter Tryz.func105, Tryz.ntmps105
 by_cases hc1 : n < 1
 ·have Hhc1 : Hid (n < 1) := hc1
  go_wp2_with fail
  refine (rFail_any b bad  _ hw).mono ?_
  rintro e w1 ⟨rfl, f1, k1⟩
  have K1 : Kept b w w1 := Kept.trans (Kept.refl b w) k1
  have z1 := K1.size
  clear k1
  have c2_BF := f1.cell
  go_wp2
  clear c2_BF
  go_ret
  have hs : zsizeS bad n = (false, true) := by unfold zsizeS; rw [if_pos (by have := Hhc1.out; omega)]
  rw [hs]
  exact ⟨rfl, f1, K1⟩
 ·have Hhc1 : Hid (¬ n < 1) := hc1
  by_cases hc2 : n > 6
  ·have Hhc2 : Hid (n > 6) := hc2
   go_wp2_with fail
   refine (rFail_any b bad  _ hw).mono ?_
   rintro e w1 ⟨rfl, f1, k1⟩
   have K1 : Kept b w w1 := Kept.trans (Kept.refl b w) k1
   have z1 := K1.size
   clear k1
   have c2_BF := f1.cell
   go_wp2
   clear c2_BF
   go_ret
   have hs : zsizeS bad n = (false, true) := by unfold zsizeS; rw [if_neg (by have := Hhc1.out; omega)]; rw [if_pos (by have := Hhc2.out; omega)]
   rw [hs]
   exact ⟨rfl, f1, K1⟩
  ·have Hhc2 : Hid (¬ n > 6) := hc2
   have c1_BF := hw.cell
   go_wp2
   clear c1_BF
   go_ret
   have hs : zsizeS bad n = (!bad, bad) := by unfold zsizeS; rw [if_neg (by have := Hhc1.out; omega)]; rw [if_neg (by have := Hhc2.out; omega)]
   rw [hs]
   exact ⟨rfl, hw, (Kept.refl b w)⟩
end Go.Proofs.YtpjobkbefgehjaaGreat
namespace Go.Proofs.YtpjobkbefgehjaaGreat
open Go.RowKit

set_option maxRecDepth 100000 in
set_option maxHeartbeats 2000000 in
theorem zRootN_any (b : Nat) (bad : Bool) (m : Nat → Int) (n : Int) (w : World) (hw : Fl b bad w) (ho : Hid (zsizeS bad n = (false, true))) :
  Calls Tryz.prog 54 #[.pointer (some ⟨b, 0, none⟩), .agg (row 36 m).toArray, .int .i64 n] w fun e w' => e = .returned (.agg (row 36 ((zRootNS bad m n).1)).toArray) ∧ Fl b (zRootNS bad m n).2 w' ∧ Kept b w w' := by
 have hl := hw.lies
 go_enter Tryz.func54, Tryz.ntmps54
 have y1_BF := hw.lies
 have y2_BF : b < w.heap.size + 1 := (Nat.lt_succ_of_lt hw.lies)
 have y2_B0 : w.heap.size < w.heap.size + 1 := (Nat.lt_succ_self _)
 have y3_BF : b < w.heap.size + 1 + 1 := (Nat.lt_succ_of_lt (Nat.lt_succ_of_lt hw.lies))
 have y3_B0 : w.heap.size < w.heap.size + 1 + 1 := (Nat.lt_succ_of_lt (Nat.lt_succ_self _))
 have y3_B1 : w.heap.size + 1 < w.heap.size + 1 + 1 := (Nat.lt_succ_self _)
 go_wp2_with (refine store_stop rfl (by kernel_rfl) ?_)
 refine Stop.mk (store_row (l' := row 36 (fun _ => 0)) rfl rfl rfl rfl (Arr_at _ _ (row 36 (fun _ => 0)) _ (by simp)) (by simp only [row_len]) (by rw [row_len]; kernel_rfl) (row_one _ _) ?_)
 intro w1 B2_1 o1
 have K1 : Kept b w w1 := Kept.off ((((Kept.refl b w).al _).al _).al _) o1 (by omega)
 have BF_1 := (((hw.alloc _).alloc _).alloc _).off o1 (zL y3_BF)
 have B0_1 : Arr w.heap.size (row 36 m) w1 := (((Arr_at _ _ (row 36 m) _ (by simp)).alloc _).alloc _).off o1 (zL y3_B0)
 have B1_1 : Arr (w.heap.size + 1) (row 36 (fun _ => 0)) w1 := ((Arr_at _ _ (row 36 (fun _ => 0)) _ (by simp)).alloc _).off o1 (zL y3_B1)
 have z1_B2 := B2_1.lies
 have z1_BF := BF_1.lies
 have z1_B0 := B0_1.lies
 have z1_B1 := B1_1.lies
 clear o1
 go_wp2_with fail
 refine (zsize_any b bad n _ BF_1).mono ?_
 rintro e w2 ⟨rfl, f2, k2⟩
 rw [ho.out] at f2 ⊢
 dsimp only at f2 ⊢
 have K2 := Kept.trans K1 k2
 have B0_2 := B0_1.kept k2 (zG y1_BF)
 have B1_2 := B1_1.kept k2 (zG y2_BF)
 have B2_2 := B2_1.kept k2 (zG y3_BF)
 have z2 := B2_2.lies
 clear K1 BF_1 B0_1 B1_1 B2_1 k2
 go_wp2_with (first | (refine row_load rfl rfl rfl B2_2 (by kernel_rfl) (by rw [row_len]; kernel_rfl) ?_) | (refine store_stop rfl (by kernel_rfl) ?_))
 refine Stop.mk (store_row (l' := row 36 (fun _ => 0)) rfl rfl rfl rfl B1_2 (by simp only [row_len]) (by rw [row_len]; kernel_rfl) (row_one _ _) ?_)
 intro w3 B1_3 o3
 have K3 : Kept b w w3 := Kept.off K2 o3 (by omega)
 have BF_3 := f2.off o3 (zL y2_BF)
 have B0_3 := B0_2.off o3 (zL y2_B0)
 have B2_3 := B2_2.off o3 (zG y3_B1)
 have z3_B1 := B1_3.lies
 have z3_BF := BF_3.lies
 have z3_B0 := B0_3.lies
 have z3_B2 := B2_3.lies
 clear K2 B1_2 f2 B0_2 B2_2 o3
 go_wp2_with (with_reducible refine post_stop ?_)
 refine Stop.mk ?_
 refine bodyPost_ret (v := .agg (row 36 (fun _ => 0)).toArray) (results_arr Tryz.results54 B1_3 rfl (by kernel_rfl) (by rw [row_len]; kernel_rfl)) rfl ?_
 have hs : zRootNS bad m n = ((fun _ => 0), true) := rfl
 rw [hs]
 exact ⟨rfl, BF_3, K3⟩
set_option maxRecDepth 100000 in
set_option maxHeartbeats 2000000 in
theorem zSolveN_any (b : Nat) (bad : Bool) (l : Nat → Int) (p : Nat → Int) (n : Int) (w : World) (hw : Fl b bad w) (ho : Hid (zsizeS bad n = (false, true))) :
  Calls Tryz.prog 55 #[.pointer (some ⟨b, 0, none⟩), .agg (row 36 l).toArray, .agg (row 6 p).toArray, .int .i64 n] w fun e w' => e = .returned (.agg (row 6 ((zSolveNS bad l p n).1)).toArray) ∧ Fl b (zSolveNS bad l p n).2 w' ∧ Kept b w w' := by
 have hl := hw.lies
 go_enter Tryz.func55, Tryz.ntmps55
 have y1_BF := hw.lies
 have y2_BF : b < w.heap.size + 1 := (Nat.lt_succ_of_lt hw.lies)
 have y2_B0 : w.heap.size < w.heap.size + 1 := (Nat.lt_succ_self _)
 have y3_BF : b < w.heap.size + 1 + 1 := (Nat.lt_succ_of_lt (Nat.lt_succ_of_lt hw.lies))
 have y3_B0 : w.heap.size < w.heap.size + 1 + 1 := (Nat.lt_succ_of_lt (Nat.lt_succ_self _))
 have y3_B1 : w.heap.size + 1 < w.heap.size + 1 + 1 := (Nat.lt_succ_self _)
 have y4_BF : b < w.heap.size + 1 + 1 + 1 := (Nat.lt_succ_of_lt (Nat.lt_succ_of_lt (Nat.lt_succ_of_lt hw.lies)))
 have y4_B0 : w.heap.size < w.heap.size + 1 + 1 + 1 := (Nat.lt_succ_of_lt (Nat.lt_succ_of_lt (Nat.lt_succ_self _)))
 have y4_B1 : w.heap.size + 1 < w.heap.size + 1 + 1 + 1 := (Nat.lt_succ_of_lt (Nat.lt_succ_self _))
 have y4_B2 : w.heap.size + 1 + 1 < w.heap.size + 1 + 1 + 1 := (Nat.lt_succ_self _)
 go_wp2_with fail
 refine (zsize_any b bad n _ ((((hw.alloc _).alloc _).alloc _).alloc _)).mono ?_
 rintro e w1 ⟨rfl, f1, k1⟩
 rw [ho.out] at f1 ⊢
 dsimp only at f1 ⊢
 have K1 : Kept b w w1 := Kept.trans (((((Kept.refl b w).al _).al _).al _).al _) k1
 have B0_1 : Arr w.heap.size (row 36 l) w1 := ((((Arr_at _ _ (row 36 l) _ (by simp)).alloc _).alloc _).alloc _).kept k1 (zG y1_BF)
 have B1_1 : Arr (w.heap.size + 1) (row 6 p) w1 := (((Arr_at _ _ (row 6 p) _ (by simp)).alloc _).alloc _).kept k1 (zG y2_BF)
 have B2_1 : Arr (w.heap.size + 1 + 1) [.int .i64 0, .int .i64 0, .int .i64 0, .int .i64 0, .int .i64 0, .int .i64 0] w1 := ((Arr_at _ _ [.int .i64 0, .int .i64 0, .int .i64 0, .int .i64 0, .int .i64 0, .int .i64 0] _ (by simp)).alloc _).kept k1 (zG y3_BF)
 have B3_1 : Arr (w.heap.size + 1 + 1 + 1) [.int .i64 0, .int .i64 0, .int .i64 0, .int .i64 0, .int .i64 0, .int .i64 0] w1 := (Arr_at _ _ [.int .i64 0, .int .i64 0, .int .i64 0, .int .i64 0, .int .i64 0, .int .i64 0] _ (by simp)).kept k1 (zG y4_BF)
 have z1 := B3_1.lies
 clear k1
 have c2_B2_0 : w1.cell? ⟨w.heap.size + 1 + 1, 0, none⟩ = some (.int .i64 0) := B2_1.c 0 (zD rfl)
 have c2_B2_1 : w1.cell? ⟨w.heap.size + 1 + 1, 1, none⟩ = some (.int .i64 0) := B2_1.c 1 (zD rfl)
 have c2_B2_2 : w1.cell? ⟨w.heap.size + 1 + 1, 2, none⟩ = some (.int .i64 0) := B2_1.c 2 (zD rfl)
 have c2_B2_3 : w1.cell? ⟨w.heap.size + 1 + 1, 3, none⟩ = some (.int .i64 0) := B2_1.c 3 (zD rfl)
 have c2_B2_4 : w1.cell? ⟨w.heap.size + 1 + 1, 4, none⟩ = some (.int .i64 0) := B2_1.c 4 (zD rfl)
 have c2_B2_5 : w1.cell? ⟨w.heap.size + 1 + 1, 5, none⟩ = some (.int .i64 0) := B2_1.c 5 (zD rfl)
 have c2_B3_0 : w1.cell? ⟨w.heap.size + 1 + 1 + 1, 0, none⟩ = some (.int .i64 0) := B3_1.c 0 (zD rfl)
 have c2_B3_1 : w1.cell? ⟨w.heap.size + 1 + 1 + 1, 1, none⟩ = some (.int .i64 0) := B3_1.c 1 (zD rfl)
 have c2_B3_2 : w1.cell? ⟨w.heap.size + 1 + 1 + 1, 2, none⟩ = some (.int .i64 0) := B3_1.c 2 (zD rfl)
 have c2_B3_3 : w1.cell? ⟨w.heap.size + 1 + 1 + 1, 3, none⟩ = some (.int .i64 0) := B3_1.c 3 (zD rfl)
 have c2_B3_4 : w1.cell? ⟨w.heap.size + 1 + 1 + 1, 4, none⟩ = some (.int .i64 0) := B3_1.c 4 (zD rfl)
 have c2_B3_5 : w1.cell? ⟨w.heap.size + 1 + 1 + 1, 5, none⟩ = some (.int .i64 0) := B3_1.c 5 (zD rfl)
 have g2_B2_0 := B2_1.f 0 (zD rfl)
 have g2_B2_1 := B2_1.f 1 (zD rfl)
 have g2_B2_2 := B2_1.f 2 (zD rfl)
 have g2_B2_3 := B2_1.f 3 (zD rfl)
 have g2_B2_4 := B2_1.f 4 (zD rfl)
 have g2_B2_5 := B2_1.f 5 (zD rfl)
 go_wp2_with (with_reducible refine post_stop ?_)
 refine Stop.mk ?_
 clear c2_B2_0 c2_B2_1 c2_B2_2 c2_B2_3 c2_B2_4 c2_B2_5 c2_B3_0 c2_B3_1 c2_B3_2 c2_B3_3 c2_B3_4 c2_B3_5 g2_B2_0 g2_B2_1 g2_B2_2 g2_B2_3 g2_B2_4 g2_B2_5
 refine bodyPost_ret (v := .agg #[.int .i64 0, .int .i64 0, .int .i64 0, .int .i64 0, .int .i64 0, .int .i64 0]) (results_arr Tryz.results55 ((((((B2_1.put 0 (zD rfl) (.int .i64 0) [.int .i64 0, .int .i64 0, .int .i64 0, .int .i64 0, .int .i64 0, .int .i64 0] rfl).put 1 (zD rfl) (.int .i64 0) [.int .i64 0, .int .i64 0, .int .i64 0, .int .i64 0, .int .i64 0, .int .i64 0] rfl).put 2 (zD rfl) (.int .i64 0) [.int .i64 0, .int .i64 0, .int .i64 0, .int .i64 0, .int .i64 0, .int .i64 0] rfl).put 3 (zD rfl) (.int .i64 0) [.int .i64 0, .int .i64 0, .int .i64 0, .int .i64 0, .int .i64 0, .int .i64 0] rfl).put 4 (zD rfl) (.int .i64 0) [.int .i64 0, .int .i64 0, .int .i64 0, .int .i64 0, .int .i64 0, .int .i64 0] rfl).put 5 (zD rfl) (.int .i64 0) [.int .i64 0, .int .i64 0, .int .i64 0, .int .i64 0, .int .i64 0, .int .i64 0] rfl) rfl (by kernel_rfl) (by kernel_rfl)) rfl ?_
 have hs : zSolveNS bad l p n = ((fun _ => 0), true) := rfl
 rw [hs]
 exact ⟨rfl, ((((((f1.new (w.heap.size + 1 + 1) 0 (zL y3_BF) (.int .i64 0)).new (w.heap.size + 1 + 1) 1 (zL y3_BF) (.int .i64 0)).new (w.heap.size + 1 + 1) 2 (zL y3_BF) (.int .i64 0)).new (w.heap.size + 1 + 1) 3 (zL y3_BF) (.int .i64 0)).new (w.heap.size + 1 + 1) 4 (zL y3_BF) (.int .i64 0)).new (w.heap.size + 1 + 1) 5 (zL y3_BF) (.int .i64 0)), ((((((K1.new _ _ (by omega) _).new _ _ (by omega) _).new _ _ (by omega) _).new _ _ (by omega) _).new _ _ (by omega) _).new _ _ (by omega) _)⟩
set_option maxRecDepth 100000 in
set_option maxHeartbeats 2000000 in
theorem zApplyN_any (b : Nat) (bad : Bool) (m : Nat → Int) (p : Nat → Int) (n : Int) (w : World) (hw : Fl b bad w) (ho : Hid (zsizeS bad n = (false, true))) :
  Calls Tryz.prog 57 #[.pointer (some ⟨b, 0, none⟩), .agg (row 36 m).toArray, .agg (row 6 p).toArray, .int .i64 n] w fun e w' => e = .returned (.agg (row 6 ((zApplyNS bad m p n).1)).toArray) ∧ Fl b (zApplyNS bad m p n).2 w' ∧ Kept b w w' := by
 have hl := hw.lies
 go_enter Tryz.func57, Tryz.ntmps57
 have y1_BF := hw.lies
 have y2_BF : b < w.heap.size + 1 := (Nat.lt_succ_of_lt hw.lies)
 have y2_B0 : w.heap.size < w.heap.size + 1 := (Nat.lt_succ_self _)
 have y3_BF : b < w.heap.size + 1 + 1 := (Nat.lt_succ_of_lt (Nat.lt_succ_of_lt hw.lies))
 have y3_B0 : w.heap.size < w.heap.size + 1 + 1 := (Nat.lt_succ_of_lt (Nat.lt_succ_self _))
 have y3_B1 : w.heap.size + 1 < w.heap.size + 1 + 1 := (Nat.lt_succ_self _)
 have y4_BF : b < w.heap.size + 1 + 1 + 1 := (Nat.lt_succ_of_lt (Nat.lt_succ_of_lt (Nat.lt_succ_of_lt hw.lies)))
 have y4_B0 : w.heap.size < w.heap.size + 1 + 1 + 1 := (Nat.lt_succ_of_lt (Nat.lt_succ_of_lt (Nat.lt_succ_self _)))
 have y4_B1 : w.heap.size + 1 < w.heap.size + 1 + 1 + 1 := (Nat.lt_succ_of_lt (Nat.lt_succ_self _))
 have y4_B2 : w.heap.size + 1 + 1 < w.heap.size + 1 + 1 + 1 := (Nat.lt_succ_self _)
 go_wp2_with fail
 refine (zsize_any b bad n _ ((((hw.alloc _).alloc _).alloc _).alloc _)).mono ?_
 rintro e w1 ⟨rfl, f1, k1⟩
 rw [ho.out] at f1 ⊢
 dsimp only at f1 ⊢
 have K1 : Kept b w w1 := Kept.trans (((((Kept.refl b w).al _).al _).al _).al _) k1
 have B0_1 : Arr w.heap.size (row 36 m) w1 := ((((Arr_at _ _ (row 36 m) _ (by simp)).alloc _).alloc _).alloc _).kept k1 (zG y1_BF)
 have B1_1 : Arr (w.heap.size + 1) (row 6 p) w1 := (((Arr_at _ _ (row 6 p) _ (by simp)).alloc _).alloc _).kept k1 (zG y2_BF)
 have B2_1 : Arr (w.heap.size + 1 + 1) [.int .i64 0, .int .i64 0, .int .i64 0, .int .i64 0, .int .i64 0, .int .i64 0] w1 := ((Arr_at _ _ [.int .i64 0, .int .i64 0, .int .i64 0, .int .i64 0, .int .i64 0, .int .i64 0] _ (by simp)).alloc _).kept k1 (zG y3_BF)
 have B3_1 : Arr (w.heap.size + 1 + 1 + 1) [.int .i64 0, .int .i64 0, .int .i64 0, .int .i64 0, .int .i64 0, .int .i64 0] w1 := (Arr_at _ _ [.int .i64 0, .int .i64 0, .int .i64 0, .int .i64 0, .int .i64 0, .int .i64 0] _ (by simp)).kept k1 (zG y4_BF)
 have z1 := B3_1.lies
 clear k1
 have c2_B2_0 : w1.cell? ⟨w.heap.size + 1 + 1, 0, none⟩ = some (.int .i64 0) := B2_1.c 0 (zD rfl)
 have c2_B2_1 : w1.cell? ⟨w.heap.size + 1 + 1, 1, none⟩ = some (.int .i64 0) := B2_1.c 1 (zD rfl)
 have c2_B2_2 : w1.cell? ⟨w.heap.size + 1 + 1, 2, none⟩ = some (.int .i64 0) := B2_1.c 2 (zD rfl)
 have c2_B2_3 : w1.cell? ⟨w.heap.size + 1 + 1, 3, none⟩ = some (.int .i64 0) := B2_1.c 3 (zD rfl)
 have c2_B2_4 : w1.cell? ⟨w.heap.size + 1 + 1, 4, none⟩ = some (.int .i64 0) := B2_1.c 4 (zD rfl)
 have c2_B2_5 : w1.cell? ⟨w.heap.size + 1 + 1, 5, none⟩ = some (.int .i64 0) := B2_1.c 5 (zD rfl)
 have c2_B3_0 : w1.cell? ⟨w.heap.size + 1 + 1 + 1, 0, none⟩ = some (.int .i64 0) := B3_1.c 0 (zD rfl)
 have c2_B3_1 : w1.cell? ⟨w.heap.size + 1 + 1 + 1, 1, none⟩ = some (.int .i64 0) := B3_1.c 1 (zD rfl)
 have c2_B3_2 : w1.cell? ⟨w.heap.size + 1 + 1 + 1, 2, none⟩ = some (.int .i64 0) := B3_1.c 2 (zD rfl)
 have c2_B3_3 : w1.cell? ⟨w.heap.size + 1 + 1 + 1, 3, none⟩ = some (.int .i64 0) := B3_1.c 3 (zD rfl)
 have c2_B3_4 : w1.cell? ⟨w.heap.size + 1 + 1 + 1, 4, none⟩ = some (.int .i64 0) := B3_1.c 4 (zD rfl)
 have c2_B3_5 : w1.cell? ⟨w.heap.size + 1 + 1 + 1, 5, none⟩ = some (.int .i64 0) := B3_1.c 5 (zD rfl)
 have g2_B2_0 := B2_1.f 0 (zD rfl)
 have g2_B2_1 := B2_1.f 1 (zD rfl)
 have g2_B2_2 := B2_1.f 2 (zD rfl)
 have g2_B2_3 := B2_1.f 3 (zD rfl)
 have g2_B2_4 := B2_1.f 4 (zD rfl)
 have g2_B2_5 := B2_1.f 5 (zD rfl)
 go_wp2_with (with_reducible refine post_stop ?_)
 refine Stop.mk ?_
 clear c2_B2_0 c2_B2_1 c2_B2_2 c2_B2_3 c2_B2_4 c2_B2_5 c2_B3_0 c2_B3_1 c2_B3_2 c2_B3_3 c2_B3_4 c2_B3_5 g2_B2_0 g2_B2_1 g2_B2_2 g2_B2_3 g2_B2_4 g2_B2_5
 refine bodyPost_ret (v := .agg #[.int .i64 0, .int .i64 0, .int .i64 0, .int .i64 0, .int .i64 0, .int .i64 0]) (results_arr Tryz.results57 ((((((B2_1.put 0 (zD rfl) (.int .i64 0) [.int .i64 0, .int .i64 0, .int .i64 0, .int .i64 0, .int .i64 0, .int .i64 0] rfl).put 1 (zD rfl) (.int .i64 0) [.int .i64 0, .int .i64 0, .int .i64 0, .int .i64 0, .int .i64 0, .int .i64 0] rfl).put 2 (zD rfl) (.int .i64 0) [.int .i64 0, .int .i64 0, .int .i64 0, .int .i64 0, .int .i64 0, .int .i64 0] rfl).put 3 (zD rfl) (.int .i64 0) [.int .i64 0, .int .i64 0, .int .i64 0, .int .i64 0, .int .i64 0, .int .i64 0] rfl).put 4 (zD rfl) (.int .i64 0) [.int .i64 0, .int .i64 0, .int .i64 0, .int .i64 0, .int .i64 0, .int .i64 0] rfl).put 5 (zD rfl) (.int .i64 0) [.int .i64 0, .int .i64 0, .int .i64 0, .int .i64 0, .int .i64 0, .int .i64 0] rfl) rfl (by kernel_rfl) (by kernel_rfl)) rfl ?_
 have hs : zApplyNS bad m p n = ((fun _ => 0), true) := rfl
 rw [hs]
 exact ⟨rfl, ((((((f1.new (w.heap.size + 1 + 1) 0 (zL y3_BF) (.int .i64 0)).new (w.heap.size + 1 + 1) 1 (zL y3_BF) (.int .i64 0)).new (w.heap.size + 1 + 1) 2 (zL y3_BF) (.int .i64 0)).new (w.heap.size + 1 + 1) 3 (zL y3_BF) (.int .i64 0)).new (w.heap.size + 1 + 1) 4 (zL y3_BF) (.int .i64 0)).new (w.heap.size + 1 + 1) 5 (zL y3_BF) (.int .i64 0)), ((((((K1.new _ _ (by omega) _).new _ _ (by omega) _).new _ _ (by omega) _).new _ _ (by omega) _).new _ _ (by omega) _).new _ _ (by omega) _)⟩
end Go.Proofs.YtpjobkbefgehjaaGreat
namespace Go.Proofs.YtpjobkbefgehjaaGreat
open Go.RowKit

set_option maxRecDepth 100000 in
set_option maxHeartbeats 2000000 in
theorem zRoot_any (b : Nat) (bad : Bool) (m : Nat → Int) (n : Nat) (w : World) (hw : Fl b bad w) (hb : Hid (bad = false)) (h1 : 1 ≤ n) (h6 : n ≤ 6) :
  Calls Tryz.prog 54 #[.pointer (some ⟨b, 0, none⟩), .agg (row 36 m).toArray, .int .i64 (n : Int)] w fun e w' => e = .returned (.agg (row 36 ((zRootS bad m n).1)).toArray) ∧ Fl b (zRootS bad m n).2 w' ∧ Kept b w w' := by
 have hl := hw.lies
 go_enter Tryz.func54, Tryz.ntmps54
 have y1_BF := hw.lies
 have y2_BF : b < w.heap.size + 1 := (Nat.lt_succ_of_lt hw.lies)
 have y2_B0 : w.heap.size < w.heap.size + 1 := (Nat.lt_succ_self _)
 have y3_BF : b < w.heap.size + 1 + 1 := (Nat.lt_succ_of_lt (Nat.lt_succ_of_lt hw.lies))
 have y3_B0 : w.heap.size < w.heap.size + 1 + 1 := (Nat.lt_succ_of_lt (Nat.lt_succ_self _))
 have y3_B1 : w.heap.size + 1 < w.heap.size + 1 + 1 := (Nat.lt_succ_self _)
 go_wp2_with (refine store_stop rfl (by kernel_rfl) ?_)
 refine Stop.mk (store_row (l' := row 36 (fun _ => 0)) rfl rfl rfl rfl (Arr_at _ _ (row 36 (fun _ => 0)) _ (by simp)) (by simp only [row_len]) (by rw [row_len]; kernel_rfl) (row_one _ _) ?_)
 intro w1 B2_1 o1
 have K1 : Kept b w w1 := Kept.off ((((Kept.refl b w).al _).al _).al _) o1 (by omega)
 have BF_1 := (((hw.alloc _).alloc _).alloc _).off o1 (zL y3_BF)
 have B0_1 : Arr w.heap.size (row 36 m) w1 := (((Arr_at _ _ (row 36 m) _ (by simp)).alloc _).alloc _).off o1 (zL y3_B0)
 have B1_1 : Arr (w.heap.size + 1) (row 36 (fun _ => 0)) w1 := ((Arr_at _ _ (row 36 (fun _ => 0)) _ (by simp)).alloc _).off o1 (zL y3_B1)
 have z1_B2 := B2_1.lies
 have z1_BF := BF_1.lies
 have z1_B0 := B0_1.lies
 have z1_B1 := B1_1.lies
 clear o1
 go_wp2_with fail
 refine (zsize_any b bad (n : Int) _ BF_1).mono ?_
 rintro e w2 ⟨rfl, f2, k2⟩
 rw [(size_in hb h1 h6)] at f2 ⊢
 dsimp only at f2 ⊢
 have K2 := Kept.trans K1 k2
 have B0_2 := B0_1.kept k2 (zG y1_BF)
 have B1_2 := B1_1.kept k2 (zG y2_BF)
 have B2_2 := B2_1.kept k2 (zG y3_BF)
 have z2 := B2_2.lies
 clear K1 BF_1 B0_1 B1_1 B2_1 k2
 go_wp2_with fail
 obtain ⟨J0, hJ0⟩ : ∃ J : Nat → Act → World → Prop, Hid (J = fun i a Wl0 => ∀ G_ : Prop, (∀ (s0 : (Nat → Int) × Bool) (t0_1 t0_3 t0_5 t0_9 t0_10 t0_11 t0_12 t0_13 t0_14 t0_15 t0_16 t0_17 t0_18 t0_19 t0_20 t0_21 t0_22 t0_23 t0_24 t0_25 t0_26 t0_27 t0_28 t0_29 t0_30 t0_31 t0_32 t0_33 t0_34 t0_35 t0_36 t0_37 t0_38 t0_39 t0_40 t0_41 t0_42 t0_43 t0_44 t0_45 t0_46 t0_47 t0_48 t0_49 t0_50 t0_51 t0_52 t0_53 t0_54 t0_55 t0_56 t0_57 t0_58 t0_59 t0_60 t0_61 t0_62 t0_63 t0_64 t0_65 t0_66 t0_67 t0_68 t0_69 t0_70 t0_71 t0_72 t0_73 t0_74 t0_75 t0_76 t0_77 t0_78 t0_79 t0_80 t0_81 t0_82 t0_83 t0_84 t0_85 t0_86 : Value), Hid (zRootS_l0 m ((fun _ => 0), bad) i = s0) → a = { tmps := #[.pointer (some ⟨b, 0, none⟩), t0_1, .int .i64 (n : Int), t0_3, .pointer (some ⟨w.heap.size, 0, none⟩), t0_5, .pointer (some ⟨w.heap.size + 1, 0, none⟩), .pointer (some ⟨w.heap.size + 1 + 1, 0, none⟩), .int .i64 (i : Int), t0_9, t0_10, t0_11, t0_12, t0_13, t0_14, t0_15, t0_16, t0_17, t0_18, t0_19, t0_20, t0_21, t0_22, t0_23, t0_24, t0_25, t0_26, t0_27, t0_28, t0_29, t0_30, t0_31, t0_32, t0_33, t0_34, t0_35, t0_36, t0_37, t0_38, t0_39, t0_40, t0_41, t0_42, t0_43, t0_44, t0_45, t0_46, t0_47, t0_48, t0_49, t0_50, t0_51, t0_52, t0_53, t0_54, t0_55, t0_56, t0_57, t0_58, t0_59, t0_60, t0_61, t0_62, t0_63, t0_64, t0_65, t0_66, t0_67, t0_68, t0_69, t0_70, t0_71, t0_72, t0_73, t0_74, t0_75, t0_76, t0_77, t0_78, t0_79, t0_80, t0_81, t0_82, t0_83, t0_84, t0_85, t0_86], defers := [] } → Kept b w Wl0 → Fl b s0.2 Wl0 → Arr w.heap.size (row 36 m) Wl0 → Arr (w.heap.size + 1) (row 36 (fun _ => 0)) Wl0 → Arr (w.heap.size + 1 + 1) (row 36 s0.1) Wl0 → G_) → G_) := ⟨_, rfl⟩
 refine rounds_up J0 n ?_ ?_ ?_
 ·rw [hJ0.out]
  intro G_ hG_
  exact hG_ ((fun _ => 0), bad) _ _ _ _ _ _ _ _ _ _ _ _ _ _ _ _ _ _ _ _ _ _ _ _ _ _ _ _ _ _ _ _ _ _ _ _ _ _ _ _ _ _ _ _ _ _ _ _ _ _ _ _ _ _ _ _ _ _ _ _ _ _ _ _ _ _ _ _ _ _ _ _ _ _ _ _ _ _ _ _ _ rfl rfl K2 f2 B0_2 B1_2 B2_2
 ·intro i a Wl0 hi hI R hR
  rw [hJ0.out] at hI
  refine hI _ ?_
  clear hI
  intro s0 t0_1 t0_3 t0_5 t0_9 t0_10 t0_11 t0_12 t0_13 t0_14 t0_15 t0_16 t0_17 t0_18 t0_19 t0_20 t0_21 t0_22 t0_23 t0_24 t0_25 t0_26 t0_27 t0_28 t0_29 t0_30 t0_31 t0_32 t0_33 t0_34 t0_35 t0_36 t0_37 t0_38 t0_39 t0_40 t0_41 t0_42 t0_43 t0_44 t0_45 t0_46 t0_47 t0_48 t0_49 t0_50 t0_51 t0_52 t0_53 t0_54 t0_55 t0_56 t0_57 t0_58 t0_59 t0_60 t0_61 t0_62 t0_63 t0_64 t0_65 t0_66 t0_67 t0_68 t0_69 t0_70 t0_71 t0_72 t0_73 t0_74 t0_75 t0_76 t0_77 t0_78 t0_79 t0_80 t0_81 t0_82 t0_83 t0_84 t0_85 t0_86 El0 ea Kl0 BF_l0 B0_l0 B1_l0 B2_l0
  subst ea
  have zl0_BF := BF_l0.lies
  have zl0_B0 := B0_l0.lies
  have zl0_B1 := B1_l0.lies
  have zl0_B2 := B2_l0.lies
  go_wp2_with fail
  obtain ⟨J1, hJ1⟩ : ∃ J : Nat → Act → World → Prop, Hid (J = fun j a Wl1 => ∀ G_ : Prop, (∀ (s1 : (Nat → Int) × Bool) (t1_1 t1_3 t1_5 t1_10 t1_11 t1_12 t1_13 t1_14 t1_15 t1_16 t1_17 t1_18 t1_19 t1_20 t1_21 t1_22 t1_23 t1_24 t1_25 t1_26 t1_27 t1_28 t1_29 t1_30 t1_31 t1_32 t1_33 t1_34 t1_35 t1_36 t1_37 t1_38 t1_39 t1_40 t1_41 t1_42 t1_43 t1_44 t1_45 t1_46 t1_47 t1_48 t1_49 t1_50 t1_51 t1_52 t1_53 t1_54 t1_55 t1_56 t1_57 t1_58 t1_59 t1_60 t1_61 t1_62 t1_63 t1_64 t1_65 t1_66 t1_67 t1_68 t1_69 t1_70 t1_71 t1_72 t1_73 t1_74 t1_75 t1_76 t1_77 t1_78 t1_79 t1_80 t1_81 t1_82 t1_83 t1_84 t1_85 t1_86 : Value), Hid (zRootS_l1 m i (s0.1, s0.2) j = s1) → a = { tmps := #[.pointer (some ⟨b, 0, none⟩), t1_1, .int .i64 (n : Int), t1_3, .pointer (some ⟨w.heap.size, 0, none⟩), t1_5, .pointer (some ⟨w.heap.size + 1, 0, none⟩), .pointer (some ⟨w.heap.size + 1 + 1, 0, none⟩), .int .i64 (i : Int), .int .i64 (j : Int), t1_10, t1_11, t1_12, t1_13, t1_14, t1_15, t1_16, t1_17, t1_18, t1_19, t1_20, t1_21, t1_22, t1_23, t1_24, t1_25, t1_26, t1_27, t1_28, t1_29, t1_30, t1_31, t1_32, t1_33, t1_34, t1_35, t1_36, t1_37, t1_38, t1_39, t1_40, t1_41, t1_42, t1_43, t1_44, t1_45, t1_46, t1_47, t1_48, t1_49, t1_50, t1_51, t1_52, t1_53, t1_54, t1_55, t1_56, t1_57, t1_58, t1_59, t1_60, t1_61, t1_62, t1_63, t1_64, t1_65, t1_66, t1_67, t1_68, t1_69, t1_70, t1_71, t1_72, t1_73, t1_74, t1_75, t1_76, t1_77, t1_78, t1_79, t1_80, t1_81, t1_82, t1_83, t1_84, t1_85, t1_86], defers := [] } → Kept b w Wl1 → Fl b s1.2 Wl1 → Arr w.heap.size (row 36 m) Wl1 → Arr (w.heap.size + 1) (row 36 (fun _ => 0)) Wl1 → Arr (w.heap.size + 1 + 1) (row 36 s1.1) Wl1 → G_) → G_) := ⟨_, rfl⟩
  refine rounds_up J1 (i + 1) ?_ ?_ ?_
  ·rw [hJ1.out]
   intro G_ hG_
   exact hG_ (s0.1, s0.2) _ _ _ _ _ _ _ _ _ _ _ _ _ _ _ _ _ _ _ _ _ _ _ _ _ _ _ _ _ _ _ _ _ _ _ _ _ _ _ _ _ _ _ _ _ _ _ _ _ _ _ _ _ _ _ _ _ _ _ _ _ _ _ _ _ _ _ _ _ _ _ _ _ _ _ _ _ _ _ _ rfl rfl Kl0 BF_l0 B0_l0 B1_l0 B2_l0
  ·intro j a Wl1 hj hI R hR
   rw [hJ1.out] at hI
   refine hI _ ?_
   clear hI
   intro s1 t1_1 t1_3 t1_5 t1_10 t1_11 t1_12 t1_13 t1_14 t1_15 t1_16 t1_17 t1_18 t1_19 t1_20 t1_21 t1_22 t1_23 t1_24 t1_25 t1_26 t1_27 t1_28 t1_29 t1_30 t1_31 t1_32 t1_33 t1_34 t1_35 t1_36 t1_37 t1_38 t1_39 t1_40 t1_41 t1_42 t1_43 t1_44 t1_45 t1_46 t1_47 t1_48 t1_49 t1_50 t1_51 t1_52 t1_53 t1_54 t1_55 t1_56 t1_57 t1_58 t1_59 t1_60 t1_61 t1_62 t1_63 t1_64 t1_65 t1_66 t1_67 t1_68 t1_69 t1_70 t1_71 t1_72 t1_73 t1_74 t1_75 t1_76 t1_77 t1_78 t1_79 t1_80 t1_81 t1_82 t1_83 t1_84 t1_85 t1_86 El1 ea Kl1 BF_l1 B0_l1 B1_l1 B2_l1
   subst ea
   have zl1_BF := BF_l1.lies
   have zl1_B0 := B0_l1.lies
   have zl1_B1 := B1_l1.lies
   have zl1_B2 := B2_l1.lies
   have c5_B0_0 : Wl1.cell? ⟨w.heap.size, i * 6 + j, none⟩ = some (.int .i64 (m (i * 6 + j))) := row_c B0_l1 (i * 6 + j) (by omega)
   have i5_1 : (i : Int) < 6 := by omega
   have i5_2 : (j : Int) < 6 := by omega
   go_wp2_with fail
   refine (rAdd_any b s1.2 (m (i * 6 + j)) 0 _ BF_l1).mono ?_
   rintro e w3 ⟨rfl, f3, k3⟩
   generalize e3 : addS s1.2 (m (i * 6 + j)) 0 = r3 at f3 ⊢
   have E3 : Hid _ := e3
   clear e3
   have K3 : Kept b w w3 := Kept.trans Kl1 k3
   have B0_3 := B0_l1.kept k3 (zG y1_BF)
   have B1_3 := B1_l1.kept k3 (zG y2_BF)
   have B2_3 := B2_l1.kept k3 (zG y3_BF)
   have z3 := B2_3.lies
   clear c5_B0_0 i5_1 i5_2 BF_l1 B0_l1 B1_l1 B2_l1 k3
   go_wp2_with fail
   obtain ⟨J2, hJ2⟩ : ∃ J : Nat → Act → World → Prop, Hid (J = fun k a Wl2 => ∀ G_ : Prop, (∀ (s2 : Int × Bool) (t2_1 t2_3 t2_5 t2_12 t2_13 t2_14 t2_15 t2_16 t2_17 t2_18 t2_19 t2_20 t2_21 t2_22 t2_23 t2_24 t2_25 t2_26 t2_27 t2_28 t2_29 t2_30 t2_31 t2_32 t2_33 t2_34 t2_35 t2_36 t2_37 t2_38 t2_39 t2_40 t2_41 t2_42 t2_43 t2_44 t2_45 t2_46 t2_47 t2_48 t2_49 t2_50 t2_51 t2_52 t2_53 t2_54 t2_55 t2_56 t2_57 t2_58 t2_59 t2_60 t2_61 t2_62 t2_63 t2_64 t2_65 t2_66 t2_67 t2_68 t2_69 t2_70 t2_71 t2_72 t2_73 t2_74 t2_75 t2_76 t2_77 t2_78 t2_79 t2_80 t2_81 t2_82 t2_83 t2_84 t2_85 t2_86 : Value), Hid (zRootS_l2 i j s1 (r3.1, r3.2) k = s2) → a = { tmps := #[.pointer (some ⟨b, 0, none⟩), t2_1, .int .i64 (n : Int), t2_3, .pointer (some ⟨w.heap.size, 0, none⟩), t2_5, .pointer (some ⟨w.heap.size + 1, 0, none⟩), .pointer (some ⟨w.heap.size + 1 + 1, 0, none⟩), .int .i64 (i : Int), .int .i64 (j : Int), .int .i64 s2.1, .int .i64 (k : Int), t2_12, t2_13, t2_14, t2_15, t2_16, t2_17, t2_18, t2_19, t2_20, t2_21, t2_22, t2_23, t2_24, t2_25, t2_26, t2_27, t2_28, t2_29, t2_30, t2_31, t2_32, t2_33, t2_34, t2_35, t2_36, t2_37, t2_38, t2_39, t2_40, t2_41, t2_42, t2_43, t2_44, t2_45, t2_46, t2_47, t2_48, t2_49, t2_50, t2_51, t2_52, t2_53, t2_54, t2_55, t2_56, t2_57, t2_58, t2_59, t2_60, t2_61, t2_62, t2_63, t2_64, t2_65, t2_66, t2_67, t2_68, t2_69, t2_70, t2_71, t2_72, t2_73, t2_74, t2_75, t2_76, t2_77, t2_78, t2_79, t2_80, t2_81, t2_82, t2_83, t2_84, t2_85, t2_86], defers := [] } → Kept b w Wl2 → Fl b s2.2 Wl2 → Arr w.heap.size (row 36 m) Wl2 → Arr (w.heap.size + 1) (row 36 (fun _ => 0)) Wl2 → Arr (w.heap.size + 1 + 1) (row 36 s1.1) Wl2 → G_) → G_) := ⟨_, rfl⟩
   refine rounds_up J2 j ?_ ?_ ?_
   ·rw [hJ2.out]
    intro G_ hG_
    exact hG_ (r3.1, r3.2) _ _ _ _ _ _ _ _ _ _ _ _ _ _ _ _ _ _ _ _ _ _ _ _ _ _ _ _ _ _ _ _ _ _ _ _ _ _ _ _ _ _ _ _ _ _ _ _ _ _ _ _ _ _ _ _ _ _ _ _ _ _ _ _ _ _ _ _ _ _ _ _ _ _ _ _ _ _ rfl rfl K3 f3 B0_3 B1_3 B2_3
   ·intro k a Wl2 hk hI R hR
    rw [hJ2.out] at hI
    refine hI _ ?_
    clear hI
    intro s2 t2_1 t2_3 t2_5 t2_12 t2_13 t2_14 t2_15 t2_16 t2_17 t2_18 t2_19 t2_20 t2_21 t2_22 t2_23 t2_24 t2_25 t2_26 t2_27 t2_28 t2_29 t2_30 t2_31 t2_32 t2_33 t2_34 t2_35 t2_36 t2_37 t2_38 t2_39 t2_40 t2_41 t2_42 t2_43 t2_44 t2_45 t2_46 t2_47 t2_48 t2_49 t2_50 t2_51 t2_52 t2_53 t2_54 t2_55 t2_56 t2_57 t2_58 t2_59 t2_60 t2_61 t2_62 t2_63 t2_64 t2_65 t2_66 t2_67 t2_68 t2_69 t2_70 t2_71 t2_72 t2_73 t2_74 t2_75 t2_76 t2_77 t2_78 t2_79 t2_80 t2_81 t2_82 t2_83 t2_84 t2_85 t2_86 El2 ea Kl2 BF_l2 B0_l2 B1_l2 B2_l2
    subst ea
    have zl2_BF := BF_l2.lies
    have zl2_B0 := B0_l2.lies
    have zl2_B1 := B1_l2.lies
    have zl2_B2 := B2_l2.lies
    go_wp2_with fail
    refine wp_region_held_drew (S := fun w' => Arr (w.heap.size + 1 + 1) (row 36 s1.1) w') (by kernel_rfl) B2_l2.drew (fun hHeld => ?_)
    refine zT (i := 0) (v := ?v549) rfl (by kernel_rfl) (fun _ _ _ h => h) (by rfl) ?y549 hHeld ?t549
    case y549 => (intro wx hSw; go_simp <;> with_reducible rfl)
    simp only [Act.put, zA, zB, zC]
    refine zT (i := 1) (v := ?v550) rfl (by kernel_rfl) (fun _ _ _ h => h) (by rfl) ?y550 hHeld ?t550
    case y550 => (intro wx hSw; go_simp <;> with_reducible rfl)
    simp only [Act.put, zA, zB, zC]
    refine zT (i := 2) (v := ?v551) rfl (by kernel_rfl) (fun _ _ _ h => h) (by rfl) ?y551 hHeld ?t551
    case y551 => (intro wx hSw; go_simp <;> with_reducible rfl)
    simp only [Act.put, zA, zB, zC]
    refine zT (i := 3) (v := ?v552) rfl (by kernel_rfl) (fun _ _ _ h => h) (by rfl) ?y552 hHeld ?t552
    case y552 => (intro wx hSw; go_simp <;> with_reducible rfl)
    simp only [Act.put, zA, zB, zC]
    refine zT (i := 4) (v := ?v553) rfl (by kernel_rfl) (fun _ _ _ h => h) (by rfl) ?y553 hHeld ?t553
    case y553 => (intro wx hSw; go_simp <;> with_reducible rfl)
    simp only [Act.put, zA, zB, zC]
    refine zT (i := 5) (v := ?v554) rfl (by kernel_rfl) (fun _ _ _ h => h) (by rfl) ?y554 hHeld ?t554
    case y554 => (intro wx hSw; have hi0 : (i : Int) < 6 := (by omega); go_simp <;> with_reducible rfl)
    simp only [Act.put, zA, zB, zC]
    refine zT (i := 6) (v := ?v555) rfl (by kernel_rfl) (fun _ _ _ h => h) (by rfl) ?y555 hHeld ?t555
    case y555 => (intro wx hSw; have hi0 : (k : Int) < 6 := (by omega); go_simp <;> with_reducible rfl)
    simp only [Act.put, zA, zB, zC]
    refine zT (i := 7) (v := ?v556) rfl (by kernel_rfl) (fun _ _ _ h => h) (by rfl) ?y556 hHeld ?t556
    case y556 => (intro wx hSw; have hc0 : wx.cell? ⟨w.heap.size + 1 + 1, i * 6 + k, none⟩ = some (.int .i64 (s1.1 (i * 6 + k))) := row_c hSw (i * 6 + k) (by omega); go_simp <;> with_reducible rfl)
    simp only [Act.put, zA, zB, zC]
    refine zT (i := 8) (v := ?v557) rfl (by kernel_rfl) (fun _ _ _ h => h) (by rfl) ?y557 hHeld ?t557
    case y557 => (intro wx hSw; go_simp <;> with_reducible rfl)
    simp only [Act.put, zA, zB, zC]
    refine zT (i := 9) (v := ?v558) rfl (by kernel_rfl) (fun _ _ _ h => h) (by rfl) ?y558 hHeld ?t558
    case y558 => (intro wx hSw; go_simp <;> with_reducible rfl)
    simp only [Act.put, zA, zB, zC]
    refine zT (i := 10) (v := ?v559) rfl (by kernel_rfl) (fun _ _ _ h => h) (by rfl) ?y559 hHeld ?t559
    case y559 => (intro wx hSw; have hi0 : (j : Int) < 6 := (by omega); go_simp <;> with_reducible rfl)
    simp only [Act.put, zA, zB, zC]
    refine zT (i := 11) (v := ?v560) rfl (by kernel_rfl) (fun _ _ _ h => h) (by rfl) ?y560 hHeld ?t560
    case y560 => (intro wx hSw; have hi0 : (k : Int) < 6 := (by omega); go_simp <;> with_reducible rfl)
    simp only [Act.put, zA, zB, zC]
    refine zT (i := 12) (v := ?v561) rfl (by kernel_rfl) (fun _ _ _ h => h) (by rfl) ?y561 hHeld ?t561
    case y561 => (intro wx hSw; have hc0 : wx.cell? ⟨w.heap.size + 1 + 1, j * 6 + k, none⟩ = some (.int .i64 (s1.1 (j * 6 + k))) := row_c hSw (j * 6 + k) (by omega); go_simp <;> with_reducible rfl)
    simp only [Act.put, zA, zB, zC]
    refine call_at (i := 13) (by kernel_rfl) rfl (fun K hK => ?_)
    go_simp
    refine (rMul_any b s2.2 (s1.1 (i * 6 + k)) (s1.1 (j * 6 + k)) _ BF_l2.drew).mono ?_
    rintro e w4 ⟨rfl, f4, k4⟩
    generalize e4 : mulS s2.2 (s1.1 (i * 6 + k)) (s1.1 (j * 6 + k)) = r4 at f4 ⊢
    have E4 : Hid _ := e4
    clear e4
    have K4 : Kept b w w4 := Kept.trans Kl2.drew k4
    have B0_4 := B0_l2.drew.kept k4 (zG y1_BF)
    have B1_4 := B1_l2.drew.kept k4 (zG y2_BF)
    have B2_4 := B2_l2.drew.kept k4 (zG y3_BF)
    have z4 := B2_4.lies
    clear hHeld
    refine hK.out _ _ B2_4 (fun hHeld => ?_)
    clear hK K BF_l2 B0_l2 B1_l2 B2_l2 k4
    refine call_at (i := 14) (by kernel_rfl) rfl (fun K hK => ?_)
    go_simp
    refine (rSub_any b r4.2 s2.1 r4.1 _ f4).mono ?_
    rintro e w5 ⟨rfl, f5, k5⟩
    generalize e5 : subS r4.2 s2.1 r4.1 = r5 at f5 ⊢
    have E5 : Hid _ := e5
    clear e5
    have K5 := Kept.trans K4 k5
    have B0_5 := B0_4.kept k5 (zG y1_BF)
    have B1_5 := B1_4.kept k5 (zG y2_BF)
    have B2_5 := B2_4.kept k5 (zG y3_BF)
    have z5 := B2_5.lies
    clear hHeld
    refine hK.out _ _ B2_5 (fun hHeld => ?_)
    clear hK K K4 f4 B0_4 B1_4 B2_4 k5
    refine zT (i := 15) (v := ?v562) rfl (by kernel_rfl) (fun _ _ _ h => h) (by rfl) ?y562 hHeld ?t562
    case y562 => (intro wx hSw; go_simp <;> with_reducible rfl)
    simp only [Act.put, zA, zB, zC]
    refine wpAnyH_done (by kernel_rfl) ?_ _
    clear hHeld
    go_wp2_with fail
    have hs2 : Hid (zRootS_l2 i j s1 (r3.1, r3.2) (k + 1) = (r5.1, r5.2)) := by show _ = _; unfold zRootS_l2; simp only [El2.out, E4.out, E5.out]
    rw [hJ2.out]
    intro G_ hG_
    exact hG_ (r5.1, r5.2) _ _ _ _ _ _ _ _ _ _ _ _ _ _ _ _ _ _ _ _ _ _ _ _ _ _ _ _ _ _ _ _ _ _ _ _ _ _ _ _ _ _ _ _ _ _ _ _ _ _ _ _ _ _ _ _ _ _ _ _ _ _ _ _ _ _ _ _ _ _ _ _ _ _ _ _ _ _ hs2 rfl K5 f5 B0_5 B1_5 B2_5
   ·intro a Wl2 hI R
    rw [hJ2.out] at hI
    refine hI _ ?_
    clear hI hJ2
    intro r6 t2_1 t2_3 t2_5 t2_12 t2_13 t2_14 t2_15 t2_16 t2_17 t2_18 t2_19 t2_20 t2_21 t2_22 t2_23 t2_24 t2_25 t2_26 t2_27 t2_28 t2_29 t2_30 t2_31 t2_32 t2_33 t2_34 t2_35 t2_36 t2_37 t2_38 t2_39 t2_40 t2_41 t2_42 t2_43 t2_44 t2_45 t2_46 t2_47 t2_48 t2_49 t2_50 t2_51 t2_52 t2_53 t2_54 t2_55 t2_56 t2_57 t2_58 t2_59 t2_60 t2_61 t2_62 t2_63 t2_64 t2_65 t2_66 t2_67 t2_68 t2_69 t2_70 t2_71 t2_72 t2_73 t2_74 t2_75 t2_76 t2_77 t2_78 t2_79 t2_80 t2_81 t2_82 t2_83 t2_84 t2_85 t2_86 E6 ea Kl2 BF_l2 B0_l2 B1_l2 B2_l2
    subst ea
    have zl2_BF := BF_l2.lies
    have zl2_B0 := B0_l2.lies
    have zl2_B1 := B1_l2.lies
    have zl2_B2 := B2_l2.lies
    by_cases hc1 : (i : Int) = (j : Int)
    ·have Hhc1 : Hid ((i : Int) = (j : Int)) := hc1
     have hc1a : i ≤ j := by omega
     have hc1b : j ≤ i := by omega
     clear hc1
     by_cases hc2 : r6.1 < 1
     ·have Hhc2 : Hid (r6.1 < 1) := hc2
      go_wp2_with fail
      refine (rFail_any b r6.2  _ BF_l2).mono ?_
      rintro e w7 ⟨rfl, f7, k7⟩
      have K7 : Kept b w w7 := Kept.trans Kl2 k7
      have B0_7 := B0_l2.kept k7 (zG y1_BF)
      have B1_7 := B1_l2.kept k7 (zG y2_BF)
      have B2_7 := B2_l2.kept k7 (zG y3_BF)
      have z7 := B2_7.lies
      clear BF_l2 B0_l2 B1_l2 B2_l2 k7
      go_wp2_with fail
      refine wp_region_held_drew (S := fun _ => True) (by kernel_rfl) trivial (fun hHeld => ?_)
      refine zT (i := 0) (v := ?v563) rfl (by kernel_rfl) (fun _ _ _ h => h) (by rfl) ?y563 hHeld ?t563
      case y563 => (intro wx hSw; go_simp <;> with_reducible rfl)
      simp only [Act.put, zA, zB, zC]
      refine zT (i := 1) (v := ?v564) rfl (by kernel_rfl) (fun _ _ _ h => h) (by rfl) ?y564 hHeld ?t564
      case y564 => (intro wx hSw; go_simp <;> with_reducible rfl)
      simp only [Act.put, zA, zB, zC]
      refine zT (i := 2) (v := ?v565) rfl (by kernel_rfl) (fun _ _ _ h => h) (by rfl) ?y565 hHeld ?t565
      case y565 => (intro wx hSw; go_simp <;> with_reducible rfl)
      simp only [Act.put, zA, zB, zC]
      refine zT (i := 3) (v := ?v566) rfl (by kernel_rfl) (fun _ _ _ h => h) (by rfl) ?y566 hHeld ?t566
      case y566 => (intro wx hSw; go_simp <;> with_reducible rfl)
      simp only [Act.put, zA, zB, zC]
      refine zT (i := 5) (v := ?v567) rfl (by kernel_rfl) (fun _ _ _ h => h) (by rfl) ?y567 hHeld ?t567
      case y567 => (intro wx hSw; have hi0 : (i : Int) < 6 := (by omega); go_simp <;> with_reducible rfl)
      simp only [Act.put, zA, zB, zC]
      refine call_at (i := 4) (by kernel_rfl) rfl (fun K hK => ?_)
      go_simp
      refine (rSqrt_any b true r6.1 _ f7.drew).mono ?_
      rintro e w8 ⟨rfl, f8, k8⟩
      generalize e8 : sqrtS true r6.1 = r8 at f8 ⊢
      have E8 : Hid _ := e8
      clear e8
      have K8 : Kept b w w8 := Kept.trans K7.drew k8
      have B0_8 := B0_7.drew.kept k8 (zG y1_BF)
      have B1_8 := B1_7.drew.kept k8 (zG y2_BF)
      have B2_8 := B2_7.drew.kept k8 (zG y3_BF)
      have z8 := B2_8.lies
      clear hHeld
      refine hK.out _ _ trivial (fun hHeld => ?_)
      clear hK K K7 f7 B0_7 B1_7 B2_7 k8
      refine zT (i := 6) (v := ?v568) rfl (by kernel_rfl) (fun _ _ _ h => h) (by rfl) ?y568 hHeld ?t568
      case y568 => (intro wx hSw; have hi0 : (j : Int) < 6 := (by omega); go_simp <;> with_reducible rfl)
      simp only [Act.put, zA, zB, zC]
      refine call_at (i := 7) (by kernel_rfl) rfl (fun K hK => ?_)
      have c11_B2_0 : w8.cell? ⟨w.heap.size + 1 + 1, i * 6 + j, none⟩ = some (.int .i64 (s1.1 (i * 6 + j))) := row_c B2_8 (i * 6 + j) (by omega)
      have g11_B2_1 := row_f B2_8 (i * 6 + j) (by omega)
      go_simp
      clear hHeld
      refine hK.out _ _ trivial (fun hHeld => ?_)
      clear hK K c11_B2_0 g11_B2_1
      refine wpAnyH_done (by kernel_rfl) ?_ _
      clear hHeld
      go_wp2_with fail
      have hs1 : Hid (zRootS_l1 m i (s0.1, s0.2) (j + 1) = ((updF s1.1 (i * 6 + j) r8.1), r8.2)) := by show _ = _; unfold zRootS_l1; simp only [El1.out, E3.out, E6.out, E8.out]; rw [if_pos (by have := Hhc1.out; omega)]; rw [if_pos (by have := Hhc2.out; omega)]
      rw [hJ1.out]
      intro G_ hG_
      exact hG_ ((updF s1.1 (i * 6 + j) r8.1), r8.2) _ _ _ _ _ _ _ _ _ _ _ _ _ _ _ _ _ _ _ _ _ _ _ _ _ _ _ _ _ _ _ _ _ _ _ _ _ _ _ _ _ _ _ _ _ _ _ _ _ _ _ _ _ _ _ _ _ _ _ _ _ _ _ _ _ _ _ _ _ _ _ _ _ _ _ _ _ _ _ _ hs1 rfl (K8.new _ _ (by omega) _) (f8.new (w.heap.size + 1 + 1) (i * 6 + j) (zL y3_BF) (.int .i64 r8.1)) (B0_8.new (w.heap.size + 1 + 1) (i * 6 + j) (zL y3_B0) (.int .i64 r8.1)) (B1_8.new (w.heap.size + 1 + 1) (i * 6 + j) (zL y3_B1) (.int .i64 r8.1)) (row_put B2_8 (i * 6 + j) (by omega) r8.1)
     ·have Hhc2 : Hid (¬ r6.1 < 1) := hc2
      go_wp2_with fail
      refine wp_region_held_drew (S := fun _ => True) (by kernel_rfl) trivial (fun hHeld => ?_)
      refine zT (i := 0) (v := ?v569) rfl (by kernel_rfl) (fun _ _ _ h => h) (by rfl) ?y569 hHeld ?t569
      case y569 => (intro wx hSw; go_simp <;> with_reducible rfl)
      simp only [Act.put, zA, zB, zC]
      refine zT (i := 1) (v := ?v570) rfl (by kernel_rfl) (fun _ _ _ h => h) (by rfl) ?y570 hHeld ?t570
      case y570 => (intro wx hSw; go_simp <;> with_reducible rfl)
      simp only [Act.put, zA, zB, zC]
      refine zT (i := 2) (v := ?v571) rfl (by kernel_rfl) (fun _ _ _ h => h) (by rfl) ?y571 hHeld ?t571
      case y571 => (intro wx hSw; go_simp <;> with_reducible rfl)
      simp only [Act.put, zA, zB, zC]
      refine zT (i := 3) (v := ?v572) rfl (by kernel_rfl) (fun _ _ _ h => h) (by rfl) ?y572 hHeld ?t572
      case y572 => (intro wx hSw; go_simp <;> with_reducible rfl)
      simp only [Act.put, zA, zB, zC]
      refine zT (i := 5) (v := ?v573) rfl (by kernel_rfl) (fun _ _ _ h => h) (by rfl) ?y573 hHeld ?t573
      case y573 => (intro wx hSw; have hi0 : (i : Int) < 6 := (by omega); go_simp <;> with_reducible rfl)
      simp only [Act.put, zA, zB, zC]
      refine call_at (i := 4) (by kernel_rfl) rfl (fun K hK => ?_)
      go_simp
      refine (rSqrt_any b r6.2 r6.1 _ BF_l2.drew).mono ?_
      rintro e w7 ⟨rfl, f7, k7⟩
      generalize e7 : sqrtS r6.2 r6.1 = r7 at f7 ⊢
      have E7 : Hid _ := e7
      clear e7
      have K7 : Kept b w w7 := Kept.trans Kl2.drew k7
      have B0_7 := B0_l2.drew.kept k7 (zG y1_BF)
      have B1_7 := B1_l2.drew.kept k7 (zG y2_BF)
      have B2_7 := B2_l2.drew.kept k7 (zG y3_BF)
      have z7 := B2_7.lies
      clear hHeld
      refine hK.out _ _ trivial (fun hHeld => ?_)
      clear hK K BF_l2 B0_l2 B1_l2 B2_l2 k7
      refine zT (i := 6) (v := ?v574) rfl (by kernel_rfl) (fun _ _ _ h => h) (by rfl) ?y574 hHeld ?t574
      case y574 => (intro wx hSw; have hi0 : (j : Int) < 6 := (by omega); go_simp <;> with_reducible rfl)
      simp only [Act.put, zA, zB, zC]
      refine call_at (i := 7) (by kernel_rfl) rfl (fun K hK => ?_)
      have c10_B2_0 : w7.cell? ⟨w.heap.size + 1 + 1, i * 6 + j, none⟩ = some (.int .i64 (s1.1 (i * 6 + j))) := row_c B2_7 (i * 6 + j) (by omega)
      have g10_B2_1 := row_f B2_7 (i * 6 + j) (by omega)
      go_simp
      clear hHeld
      refine hK.out _ _ trivial (fun hHeld => ?_)
      clear hK K c10_B2_0 g10_B2_1
      refine wpAnyH_done (by kernel_rfl) ?_ _
      clear hHeld
      go_wp2_with fail
      have hs1 : Hid (zRootS_l1 m i (s0.1, s0.2) (j + 1) = ((updF s1.1 (i * 6 + j) r7.1), r7.2)) := by show _ = _; unfold zRootS_l1; simp only [El1.out, E3.out, E6.out, E7.out]; rw [if_pos (by have := Hhc1.out; omega)]; rw [if_neg (by have := Hhc2.out; omega)]
      rw [hJ1.out]
      intro G_ hG_
      exact hG_ ((updF s1.1 (i * 6 + j) r7.1), r7.2) _ _ _ _ _ _ _ _ _ _ _ _ _ _ _ _ _ _ _ _ _ _ _ _ _ _ _ _ _ _ _ _ _ _ _ _ _ _ _ _ _ _ _ _ _ _ _ _ _ _ _ _ _ _ _ _ _ _ _ _ _ _ _ _ _ _ _ _ _ _ _ _ _ _ _ _ _ _ _ _ hs1 rfl (K7.new _ _ (by omega) _) (f7.new (w.heap.size + 1 + 1) (i * 6 + j) (zL y3_BF) (.int .i64 r7.1)) (B0_7.new (w.heap.size + 1 + 1) (i * 6 + j) (zL y3_B0) (.int .i64 r7.1)) (B1_7.new (w.heap.size + 1 + 1) (i * 6 + j) (zL y3_B1) (.int .i64 r7.1)) (row_put B2_7 (i * 6 + j) (by omega) r7.1)
    ·have Hhc1 : Hid (¬ (i : Int) = (j : Int)) := hc1
     go_wp2_with fail
     refine wp_region_held_drew (S := fun w' => NearR (w.heap.size + 1 + 1) 36 s1.1 (i * 6 + j) w') (by kernel_rfl) (NearR.same B2_l2.drew) (fun hHeld => ?_)
     refine zT (i := 0) (v := ?v575) rfl (by kernel_rfl) (fun _ _ _ h => h) (by rfl) ?y575 hHeld ?t575
     case y575 => (intro wx hSw; go_simp <;> with_reducible rfl)
     simp only [Act.put, zA, zB, zC]
     refine zT (i := 1) (v := ?v576) rfl (by kernel_rfl) (fun _ _ _ h => h) (by rfl) ?y576 hHeld ?t576
     case y576 => (intro wx hSw; go_simp <;> with_reducible rfl)
     simp only [Act.put, zA, zB, zC]
     refine zT (i := 2) (v := ?v577) rfl (by kernel_rfl) (fun _ _ _ h => h) (by rfl) ?y577 hHeld ?t577
     case y577 => (intro wx hSw; go_simp <;> with_reducible rfl)
     simp only [Act.put, zA, zB, zC]
     refine zT (i := 3) (v := ?v578) rfl (by kernel_rfl) (fun _ _ _ h => h) (by rfl) ?y578 hHeld ?t578
     case y578 => (intro wx hSw; go_simp <;> with_reducible rfl)
     simp only [Act.put, zA, zB, zC]
     refine zT (i := 4) (v := ?v579) rfl (by kernel_rfl) (fun _ _ _ h => h) (by rfl) ?y579 hHeld ?t579
     case y579 => (intro wx hSw; go_simp <;> with_reducible rfl)
     simp only [Act.put, zA, zB, zC]
     refine zT (i := 5) (v := ?v580) rfl (by kernel_rfl) (fun _ _ _ h => h) (by rfl) ?y580 hHeld ?t580
     case y580 => (intro wx hSw; go_simp <;> with_reducible rfl)
     simp only [Act.put, zA, zB, zC]
     refine zT (i := 6) (v := ?v581) rfl (by kernel_rfl) (fun _ _ _ h => h) (by rfl) ?y581 hHeld ?t581
     case y581 => (intro wx hSw; have hi0 : (j : Int) < 6 := (by omega); go_simp <;> with_reducible rfl)
     simp only [Act.put, zA, zB, zC]
     refine zT (i := 7) (v := ?v582) rfl (by kernel_rfl) (fun _ _ _ h => h) (by rfl) ?y582 hHeld ?t582
     case y582 => (intro wx hSw; have hi0 : (j : Int) < 6 := (by omega); go_simp <;> with_reducible rfl)
     simp only [Act.put, zA, zB, zC]
     refine zT (i := 8) (v := ?v583) rfl (by kernel_rfl) (fun _ _ _ h => h) (by rfl) ?y583 hHeld ?t583
     case y583 => (intro wx hSw; have hc0 : wx.cell? ⟨w.heap.size + 1 + 1, j * 6 + j, none⟩ = some (.int .i64 (s1.1 (j * 6 + j))) := near_c hSw (j * 6 + j) (by omega) (by omega); go_simp <;> with_reducible rfl)
     simp only [Act.put, zA, zB, zC]
     refine zT (i := 10) (v := ?v584) rfl (by kernel_rfl) (fun _ _ _ h => h) (by rfl) ?y584 hHeld ?t584
     case y584 => (intro wx hSw; have hi0 : (i : Int) < 6 := (by omega); go_simp <;> with_reducible rfl)
     simp only [Act.put, zA, zB, zC]
     refine call_at (i := 9) (by kernel_rfl) rfl (fun K hK => ?_)
     go_simp
     refine (rDiv_any b r6.2 r6.1 (s1.1 (j * 6 + j)) _ BF_l2.drew).mono ?_
     rintro e w7 ⟨rfl, f7, k7⟩
     generalize e7 : divS r6.2 r6.1 (s1.1 (j * 6 + j)) = r7 at f7 ⊢
     have E7 : Hid _ := e7
     clear e7
     have K7 : Kept b w w7 := Kept.trans Kl2.drew k7
     have B0_7 := B0_l2.drew.kept k7 (zG y1_BF)
     have B1_7 := B1_l2.drew.kept k7 (zG y2_BF)
     have B2_7 := B2_l2.drew.kept k7 (zG y3_BF)
     have z7 := B2_7.lies
     clear hHeld
     refine hK.out _ _ (NearR.same B2_7) (fun hHeld => ?_)
     clear hK K BF_l2 B0_l2 B1_l2 B2_l2 k7
     refine zT (i := 11) (v := ?v585) rfl (by kernel_rfl) (fun _ _ _ h => h) (by rfl) ?y585 hHeld ?t585
     case y585 => (intro wx hSw; have hi0 : (j : Int) < 6 := (by omega); go_simp <;> with_reducible rfl)
     simp only [Act.put, zA, zB, zC]
     refine call_at (i := 12) (by kernel_rfl) rfl (fun K hK => ?_)
     have c10_B2_0 : w7.cell? ⟨w.heap.size + 1 + 1, i * 6 + j, none⟩ = some (.int .i64 (s1.1 (i * 6 + j))) := row_c B2_7 (i * 6 + j) (by omega)
     have g10_B2_1 := row_f B2_7 (i * 6 + j) (by omega)
     go_simp
     clear hHeld
     refine hK.out _ _ (NearR.upd (row_put B2_7 (i * 6 + j) (by omega) r7.1)) (fun hHeld => ?_)
     clear hK K c10_B2_0 g10_B2_1
     refine wpAnyH_done (by kernel_rfl) ?_ _
     clear hHeld
     go_wp2_with fail
     have hs1 : Hid (zRootS_l1 m i (s0.1, s0.2) (j + 1) = ((updF s1.1 (i * 6 + j) r7.1), r7.2)) := by show _ = _; unfold zRootS_l1; simp only [El1.out, E3.out, E6.out, E7.out]; rw [if_neg (by have := Hhc1.out; omega)]
     rw [hJ1.out]
     intro G_ hG_
     exact hG_ ((updF s1.1 (i * 6 + j) r7.1), r7.2) _ _ _ _ _ _ _ _ _ _ _ _ _ _ _ _ _ _ _ _ _ _ _ _ _ _ _ _ _ _ _ _ _ _ _ _ _ _ _ _ _ _ _ _ _ _ _ _ _ _ _ _ _ _ _ _ _ _ _ _ _ _ _ _ _ _ _ _ _ _ _ _ _ _ _ _ _ _ _ _ hs1 rfl (K7.new _ _ (by omega) _) (f7.new (w.heap.size + 1 + 1) (i * 6 + j) (zL y3_BF) (.int .i64 r7.1)) (B0_7.new (w.heap.size + 1 + 1) (i * 6 + j) (zL y3_B0) (.int .i64 r7.1)) (B1_7.new (w.heap.size + 1 + 1) (i * 6 + j) (zL y3_B1) (.int .i64 r7.1)) (row_put B2_7 (i * 6 + j) (by omega) r7.1)
  ·intro a Wl1 hI R
   rw [hJ1.out] at hI
   refine hI _ ?_
   clear hI hJ1
   intro r4 t1_1 t1_3 t1_5 t1_10 t1_11 t1_12 t1_13 t1_14 t1_15 t1_16 t1_17 t1_18 t1_19 t1_20 t1_21 t1_22 t1_23 t1_24 t1_25 t1_26 t1_27 t1_28 t1_29 t1_30 t1_31 t1_32 t1_33 t1_34 t1_35 t1_36 t1_37 t1_38 t1_39 t1_40 t1_41 t1_42 t1_43 t1_44 t1_45 t1_46 t1_47 t1_48 t1_49 t1_50 t1_51 t1_52 t1_53 t1_54 t1_55 t1_56 t1_57 t1_58 t1_59 t1_60 t1_61 t1_62 t1_63 t1_64 t1_65 t1_66 t1_67 t1_68 t1_69 t1_70 t1_71 t1_72 t1_73 t1_74 t1_75 t1_76 t1_77 t1_78 t1_79 t1_80 t1_81 t1_82 t1_83 t1_84 t1_85 t1_86 E4 ea Kl1 BF_l1 B0_l1 B1_l1 B2_l1
   subst ea
   have zl1_BF := BF_l1.lies
   have zl1_B0 := B0_l1.lies
   have zl1_B1 := B1_l1.lies
   have zl1_B2 := B2_l1.lies
   go_wp2_with fail
   have hs0 : Hid (zRootS_l0 m ((fun _ => 0), bad) (i + 1) = (r4.1, r4.2)) := by show _ = _; unfold zRootS_l0; simp only [El0.out, E4.out]
   rw [hJ0.out]
   intro G_ hG_
   exact hG_ (r4.1, r4.2) _ _ _ _ _ _ _ _ _ _ _ _ _ _ _ _ _ _ _ _ _ _ _ _ _ _ _ _ _ _ _ _ _ _ _ _ _ _ _ _ _ _ _ _ _ _ _ _ _ _ _ _ _ _ _ _ _ _ _ _ _ _ _ _ _ _ _ _ _ _ _ _ _ _ _ _ _ _ _ _ _ hs0 rfl Kl1 BF_l1 B0_l1 B1_l1 B2_l1
 ·intro a Wl0 hI R
  rw [hJ0.out] at hI
  refine hI _ ?_
  clear hI hJ0
  intro r3 t0_1 t0_3 t0_5 t0_9 t0_10 t0_11 t0_12 t0_13 t0_14 t0_15 t0_16 t0_17 t0_18 t0_19 t0_20 t0_21 t0_22 t0_23 t0_24 t0_25 t0_26 t0_27 t0_28 t0_29 t0_30 t0_31 t0_32 t0_33 t0_34 t0_35 t0_36 t0_37 t0_38 t0_39 t0_40 t0_41 t0_42 t0_43 t0_44 t0_45 t0_46 t0_47 t0_48 t0_49 t0_50 t0_51 t0_52 t0_53 t0_54 t0_55 t0_56 t0_57 t0_58 t0_59 t0_60 t0_61 t0_62 t0_63 t0_64 t0_65 t0_66 t0_67 t0_68 t0_69 t0_70 t0_71 t0_72 t0_73 t0_74 t0_75 t0_76 t0_77 t0_78 t0_79 t0_80 t0_81 t0_82 t0_83 t0_84 t0_85 t0_86 E3 ea Kl0 BF_l0 B0_l0 B1_l0 B2_l0
  subst ea
  have zl0_BF := BF_l0.lies
  have zl0_B0 := B0_l0.lies
  have zl0_B1 := B1_l0.lies
  have zl0_B2 := B2_l0.lies
  rcases Bool.eq_false_or_eq_true r3.2 with hc1 | hc1
  ·have Hhc1 : Hid (r3.2 = true) := hc1
   have c5_BF := BF_l0.cell
   go_wp2_with (refine store_stop rfl (by kernel_rfl) ?_)
   clear c5_BF
   refine Stop.mk (store_row (l' := row 36 (fun _ => 0)) rfl rfl rfl rfl B1_l0 (by simp only [row_len]) (by rw [row_len]; kernel_rfl) (row_one _ _) ?_)
   intro w4 B1_4 o4
   have K4 : Kept b w w4 := Kept.off Kl0 o4 (by omega)
   have BF_4 := BF_l0.off o4 (zL y2_BF)
   have B0_4 := B0_l0.off o4 (zL y2_B0)
   have B2_4 := B2_l0.off o4 (zG y3_B1)
   have z4_B1 := B1_4.lies
   have z4_BF := BF_4.lies
   have z4_B0 := B0_4.lies
   have z4_B2 := B2_4.lies
   clear B1_l0 BF_l0 B0_l0 B2_l0 o4
   go_wp2_with (with_reducible refine post_stop ?_)
   refine Stop.mk ?_
   refine bodyPost_ret (v := .agg (row 36 (fun _ => 0)).toArray) (results_arr Tryz.results54 B1_4 rfl (by kernel_rfl) (by rw [row_len]; kernel_rfl)) rfl ?_
   have hs : zRootS bad m n = ((fun _ => 0), r3.2) := by unfold zRootS; simp only [E3.out]; rw [if_pos Hhc1.out]
   rw [hs]
   exact ⟨rfl, BF_4, K4⟩
  ·have Hhc1 : Hid (r3.2 = false) := hc1
   have c5_BF := BF_l0.cell
   go_wp2_with (first | (refine row_load rfl rfl rfl B2_l0 (by kernel_rfl) (by rw [row_len]; kernel_rfl) ?_) | (refine store_stop rfl (by kernel_rfl) ?_))
   clear c5_BF
   refine Stop.mk (store_row (l' := row 36 r3.1) rfl rfl rfl rfl B1_l0 (by simp only [row_len]) (by rw [row_len]; kernel_rfl) (row_one _ _) ?_)
   intro w4 B1_4 o4
   have K4 : Kept b w w4 := Kept.off Kl0 o4 (by omega)
   have BF_4 := BF_l0.off o4 (zL y2_BF)
   have B0_4 := B0_l0.off o4 (zL y2_B0)
   have B2_4 := B2_l0.off o4 (zG y3_B1)
   have z4_B1 := B1_4.lies
   have z4_BF := BF_4.lies
   have z4_B0 := B0_4.lies
   have z4_B2 := B2_4.lies
   clear B1_l0 BF_l0 B0_l0 B2_l0 o4
   go_wp2_with (with_reducible refine post_stop ?_)
   refine Stop.mk ?_
   refine bodyPost_ret (v := .agg (row 36 r3.1).toArray) (results_arr Tryz.results54 B1_4 rfl (by kernel_rfl) (by rw [row_len]; kernel_rfl)) rfl ?_
   have hs : zRootS bad m n = (r3.1, r3.2) := by unfold zRootS; simp only [E3.out]; rw [if_neg (by rw [Hhc1.out]; decide)]
   rw [hs]
   exact ⟨rfl, BF_4, K4⟩
end Go.Proofs.YtpjobkbefgehjaaGreat
namespace Go.Proofs.YtpjobkbefgehjaaGreat
open Go.RowKit

set_option maxRecDepth 100000 in
set_option maxHeartbeats 2000000 in
theorem zSolve_any (b : Nat) (bad : Bool) (l : Nat → Int) (p : Nat → Int) (n : Nat) (w : World) (hw : Fl b bad w) (hb : Hid (bad = false)) (h1 : 1 ≤ n) (h6 : n ≤ 6) :
  Calls Tryz.prog 55 #[.pointer (some ⟨b, 0, none⟩), .agg (row 36 l).toArray, .agg (row 6 p).toArray, .int .i64 (n : Int)] w fun e w' => e = .returned (.agg (row 6 ((zSolveS bad l p n).1)).toArray) ∧ Fl b (zSolveS bad l p n).2 w' ∧ Kept b w w' := by
 have hl := hw.lies
 go_enter Tryz.func55, Tryz.ntmps55
 have y1_BF := hw.lies
 have y2_BF : b < w.heap.size + 1 := (Nat.lt_succ_of_lt hw.lies)
 have y2_B0 : w.heap.size < w.heap.size + 1 := (Nat.lt_succ_self _)
 have y3_BF : b < w.heap.size + 1 + 1 := (Nat.lt_succ_of_lt (Nat.lt_succ_of_lt hw.lies))
 have y3_B0 : w.heap.size < w.heap.size + 1 + 1 := (Nat.lt_succ_of_lt (Nat.lt_succ_self _))
 have y3_B1 : w.heap.size + 1 < w.heap.size + 1 + 1 := (Nat.lt_succ_self _)
 have y4_BF : b < w.heap.size + 1 + 1 + 1 := (Nat.lt_succ_of_lt (Nat.lt_succ_of_lt (Nat.lt_succ_of_lt hw.lies)))
 have y4_B0 : w.heap.size < w.heap.size + 1 + 1 + 1 := (Nat.lt_succ_of_lt (Nat.lt_succ_of_lt (Nat.lt_succ_self _)))
 have y4_B1 : w.heap.size + 1 < w.heap.size + 1 + 1 + 1 := (Nat.lt_succ_of_lt (Nat.lt_succ_self _))
 have y4_B2 : w.heap.size + 1 + 1 < w.heap.size + 1 + 1 + 1 := (Nat.lt_succ_self _)
 go_wp2_with fail
 refine (zsize_any b bad (n : Int) _ ((((hw.alloc _).alloc _).alloc _).alloc _)).mono ?_
 rintro e w1 ⟨rfl, f1, k1⟩
 rw [(size_in hb h1 h6)] at f1 ⊢
 dsimp only at f1 ⊢
 have K1 : Kept b w w1 := Kept.trans (((((Kept.refl b w).al _).al _).al _).al _) k1
 have B0_1 : Arr w.heap.size (row 36 l) w1 := ((((Arr_at _ _ (row 36 l) _ (by simp)).alloc _).alloc _).alloc _).kept k1 (zG y1_BF)
 have B1_1 : Arr (w.heap.size + 1) (row 6 p) w1 := (((Arr_at _ _ (row 6 p) _ (by simp)).alloc _).alloc _).kept k1 (zG y2_BF)
 have B2_1 : Arr (w.heap.size + 1 + 1) [.int .i64 0, .int .i64 0, .int .i64 0, .int .i64 0, .int .i64 0, .int .i64 0] w1 := ((Arr_at _ _ [.int .i64 0, .int .i64 0, .int .i64 0, .int .i64 0, .int .i64 0, .int .i64 0] _ (by simp)).alloc _).kept k1 (zG y3_BF)
 have B3_1 : Arr (w.heap.size + 1 + 1 + 1) [.int .i64 0, .int .i64 0, .int .i64 0, .int .i64 0, .int .i64 0, .int .i64 0] w1 := (Arr_at _ _ [.int .i64 0, .int .i64 0, .int .i64 0, .int .i64 0, .int .i64 0, .int .i64 0] _ (by simp)).kept k1 (zG y4_BF)
 have z1 := B3_1.lies
 clear k1
 have y5_BF := f1.lies
 have y5_B0 := B0_1.lies
 have y5_B1 := B1_1.lies
 have y5_B2 := B2_1.lies
 have y5_B3 := B3_1.lies
 go_wp2_with fail
 obtain ⟨J2, hJ2⟩ : ∃ J : Nat → Act → World → Prop, Hid (J = fun i a Wl2 => ∀ G_ : Prop, (∀ (s2 : (Nat → Int) × Bool) (t2_1 t2_2 t2_4 t2_7 t2_12 t2_13 t2_14 t2_15 t2_16 t2_17 t2_18 t2_19 t2_20 t2_21 t2_22 t2_23 t2_24 t2_25 t2_26 t2_27 t2_28 t2_29 t2_30 t2_31 t2_32 t2_33 t2_34 t2_35 t2_36 t2_37 t2_38 t2_39 t2_40 t2_41 t2_42 t2_43 t2_44 t2_45 t2_46 t2_47 t2_48 t2_49 t2_50 t2_51 t2_52 t2_53 t2_54 t2_55 t2_56 t2_57 t2_58 t2_59 t2_60 t2_61 t2_62 t2_63 t2_64 t2_65 t2_66 t2_67 t2_68 t2_69 t2_70 t2_71 t2_72 t2_73 t2_74 t2_75 t2_76 t2_77 t2_78 t2_79 t2_80 t2_81 t2_82 t2_83 t2_84 t2_85 t2_86 t2_87 t2_88 t2_89 t2_90 t2_91 t2_92 t2_93 t2_94 t2_95 t2_96 t2_97 t2_98 t2_99 t2_100 t2_101 t2_102 t2_103 t2_104 t2_105 t2_106 : Value), Hid (zSolveS_l2 l p ((fun _ => 0), bad) i = s2) → a = { tmps := #[.pointer (some ⟨b, 0, none⟩), t2_1, t2_2, .int .i64 (n : Int), t2_4, .pointer (some ⟨w.heap.size, 0, none⟩), .pointer (some ⟨w.heap.size + 1, 0, none⟩), t2_7, .pointer (some ⟨w.heap.size + 1 + 1, 0, none⟩), .pointer (some ⟨w.heap.size + 1 + 1 + 1, 0, none⟩), .pointer (some ⟨w1.heap.size, 0, none⟩), .int .i64 (i : Int), t2_12, t2_13, t2_14, t2_15, t2_16, t2_17, t2_18, t2_19, t2_20, t2_21, t2_22, t2_23, t2_24, t2_25, t2_26, t2_27, t2_28, t2_29, t2_30, t2_31, t2_32, t2_33, t2_34, t2_35, t2_36, t2_37, t2_38, t2_39, t2_40, t2_41, t2_42, t2_43, t2_44, t2_45, t2_46, t2_47, t2_48, t2_49, t2_50, t2_51, t2_52, t2_53, t2_54, t2_55, t2_56, t2_57, t2_58, t2_59, t2_60, t2_61, t2_62, t2_63, t2_64, t2_65, t2_66, t2_67, t2_68, t2_69, t2_70, t2_71, t2_72, t2_73, t2_74, t2_75, t2_76, t2_77, t2_78, t2_79, t2_80, t2_81, t2_82, t2_83, t2_84, t2_85, t2_86, t2_87, t2_88, t2_89, t2_90, t2_91, t2_92, t2_93, t2_94, t2_95, t2_96, t2_97, t2_98, t2_99, t2_100, t2_101, t2_102, t2_103, t2_104, t2_105, t2_106], defers := [] } → Kept b w Wl2 → Fl b s2.2 Wl2 → Arr w.heap.size (row 36 l) Wl2 → Arr (w.heap.size + 1) (row 6 p) Wl2 → Arr (w.heap.size + 1 + 1) (row 6 (fun _ => 0)) Wl2 → Arr (w.heap.size + 1 + 1 + 1) (row 6 (fun _ => 0)) Wl2 → Arr w1.heap.size (row 6 s2.1) Wl2 → G_) → G_) := ⟨_, rfl⟩
 refine rounds_up J2 n ?_ ?_ ?_
 ·rw [hJ2.out]
  intro G_ hG_
  exact hG_ ((fun _ => 0), bad) _ _ _ _ _ _ _ _ _ _ _ _ _ _ _ _ _ _ _ _ _ _ _ _ _ _ _ _ _ _ _ _ _ _ _ _ _ _ _ _ _ _ _ _ _ _ _ _ _ _ _ _ _ _ _ _ _ _ _ _ _ _ _ _ _ _ _ _ _ _ _ _ _ _ _ _ _ _ _ _ _ _ _ _ _ _ _ _ _ _ _ _ _ _ _ _ _ _ _ rfl rfl (K1.al _) (f1.alloc _) (B0_1.alloc _) (B1_1.alloc _) (B2_1.alloc _) (B3_1.alloc _) (Arr_at _ _ (row 6 (fun _ => 0)) _ (by simp))
 ·intro i a Wl2 hi hI R hR
  rw [hJ2.out] at hI
  refine hI _ ?_
  clear hI
  intro s2 t2_1 t2_2 t2_4 t2_7 t2_12 t2_13 t2_14 t2_15 t2_16 t2_17 t2_18 t2_19 t2_20 t2_21 t2_22 t2_23 t2_24 t2_25 t2_26 t2_27 t2_28 t2_29 t2_30 t2_31 t2_32 t2_33 t2_34 t2_35 t2_36 t2_37 t2_38 t2_39 t2_40 t2_41 t2_42 t2_43 t2_44 t2_45 t2_46 t2_47 t2_48 t2_49 t2_50 t2_51 t2_52 t2_53 t2_54 t2_55 t2_56 t2_57 t2_58 t2_59 t2_60 t2_61 t2_62 t2_63 t2_64 t2_65 t2_66 t2_67 t2_68 t2_69 t2_70 t2_71 t2_72 t2_73 t2_74 t2_75 t2_76 t2_77 t2_78 t2_79 t2_80 t2_81 t2_82 t2_83 t2_84 t2_85 t2_86 t2_87 t2_88 t2_89 t2_90 t2_91 t2_92 t2_93 t2_94 t2_95 t2_96 t2_97 t2_98 t2_99 t2_100 t2_101 t2_102 t2_103 t2_104 t2_105 t2_106 El2 ea Kl2 BF_l2 B0_l2 B1_l2 B2_l2 B3_l2 B4_l2
  subst ea
  have zl2_BF := BF_l2.lies
  have zl2_B0 := B0_l2.lies
  have zl2_B1 := B1_l2.lies
  have zl2_B2 := B2_l2.lies
  have zl2_B3 := B3_l2.lies
  have zl2_B4 := B4_l2.lies
  have c3_B1_0 : Wl2.cell? ⟨w.heap.size + 1, i, none⟩ = some (.int .i64 (p i)) := row_c B1_l2 i (by omega)
  have i3_1 : (i : Int) < 6 := by omega
  go_wp2_with fail
  refine (rAdd_any b s2.2 (p i) 0 _ BF_l2).mono ?_
  rintro e w2 ⟨rfl, f2, k2⟩
  generalize e2 : addS s2.2 (p i) 0 = r2 at f2 ⊢
  have E2 : Hid _ := e2
  clear e2
  have K2 : Kept b w w2 := Kept.trans Kl2 k2
  have B0_2 := B0_l2.kept k2 (zG y1_BF)
  have B1_2 := B1_l2.kept k2 (zG y2_BF)
  have B2_2 := B2_l2.kept k2 (zG y3_BF)
  have B3_2 := B3_l2.kept k2 (zG y4_BF)
  have B4_2 := B4_l2.kept k2 (zG y5_BF)
  have z2 := B4_2.lies
  clear c3_B1_0 i3_1 BF_l2 B0_l2 B1_l2 B2_l2 B3_l2 B4_l2 k2
  go_wp2_with fail
  obtain ⟨J3, hJ3⟩ : ∃ J : Nat → Act → World → Prop, Hid (J = fun k a Wl3 => ∀ G_ : Prop, (∀ (s3 : Int × Bool) (t3_1 t3_2 t3_4 t3_7 t3_14 t3_15 t3_16 t3_17 t3_18 t3_19 t3_20 t3_21 t3_22 t3_23 t3_24 t3_25 t3_26 t3_27 t3_28 t3_29 t3_30 t3_31 t3_32 t3_33 t3_34 t3_35 t3_36 t3_37 t3_38 t3_39 t3_40 t3_41 t3_42 t3_43 t3_44 t3_45 t3_46 t3_47 t3_48 t3_49 t3_50 t3_51 t3_52 t3_53 t3_54 t3_55 t3_56 t3_57 t3_58 t3_59 t3_60 t3_61 t3_62 t3_63 t3_64 t3_65 t3_66 t3_67 t3_68 t3_69 t3_70 t3_71 t3_72 t3_73 t3_74 t3_75 t3_76 t3_77 t3_78 t3_79 t3_80 t3_81 t3_82 t3_83 t3_84 t3_85 t3_86 t3_87 t3_88 t3_89 t3_90 t3_91 t3_92 t3_93 t3_94 t3_95 t3_96 t3_97 t3_98 t3_99 t3_100 t3_101 t3_102 t3_103 t3_104 t3_105 t3_106 : Value), Hid (zSolveS_l3 l i s2 (r2.1, r2.2) k = s3) → a = { tmps := #[.pointer (some ⟨b, 0, none⟩), t3_1, t3_2, .int .i64 (n : Int), t3_4, .pointer (some ⟨w.heap.size, 0, none⟩), .pointer (some ⟨w.heap.size + 1, 0, none⟩), t3_7, .pointer (some ⟨w.heap.size + 1 + 1, 0, none⟩), .pointer (some ⟨w.heap.size + 1 + 1 + 1, 0, none⟩), .pointer (some ⟨w1.heap.size, 0, none⟩), .int .i64 (i : Int), .int .i64 s3.1, .int .i64 (k : Int), t3_14, t3_15, t3_16, t3_17, t3_18, t3_19, t3_20, t3_21, t3_22, t3_23, t3_24, t3_25, t3_26, t3_27, t3_28, t3_29, t3_30, t3_31, t3_32, t3_33, t3_34, t3_35, t3_36, t3_37, t3_38, t3_39, t3_40, t3_41, t3_42, t3_43, t3_44, t3_45, t3_46, t3_47, t3_48, t3_49, t3_50, t3_51, t3_52, t3_53, t3_54, t3_55, t3_56, t3_57, t3_58, t3_59, t3_60, t3_61, t3_62, t3_63, t3_64, t3_65, t3_66, t3_67, t3_68, t3_69, t3_70, t3_71, t3_72, t3_73, t3_74, t3_75, t3_76, t3_77, t3_78, t3_79, t3_80, t3_81, t3_82, t3_83, t3_84, t3_85, t3_86, t3_87, t3_88, t3_89, t3_90, t3_91, t3_92, t3_93, t3_94, t3_95, t3_96, t3_97, t3_98, t3_99, t3_100, t3_101, t3_102, t3_103, t3_104, t3_105, t3_106], defers := [] } → Kept b w Wl3 → Fl b s3.2 Wl3 → Arr w.heap.size (row 36 l) Wl3 → Arr (w.heap.size + 1) (row 6 p) Wl3 → Arr (w.heap.size + 1 + 1) (row 6 (fun _ => 0)) Wl3 → Arr (w.heap.size + 1 + 1 + 1) (row 6 (fun _ => 0)) Wl3 → Arr w1.heap.size (row 6 s2.1) Wl3 → G_) → G_) := ⟨_, rfl⟩
  refine rounds_up J3 i ?_ ?_ ?_
  ·rw [hJ3.out]
   intro G_ hG_
   exact hG_ (r2.1, r2.2) _ _ _ _ _ _ _ _ _ _ _ _ _ _ _ _ _ _ _ _ _ _ _ _ _ _ _ _ _ _ _ _ _ _ _ _ _ _ _ _ _ _ _ _ _ _ _ _ _ _ _ _ _ _ _ _ _ _ _ _ _ _ _ _ _ _ _ _ _ _ _ _ _ _ _ _ _ _ _ _ _ _ _ _ _ _ _ _ _ _ _ _ _ _ _ _ _ rfl rfl K2 f2 B0_2 B1_2 B2_2 B3_2 B4_2
  ·intro k a Wl3 hk hI R hR
   rw [hJ3.out] at hI
   refine hI _ ?_
   clear hI
   intro s3 t3_1 t3_2 t3_4 t3_7 t3_14 t3_15 t3_16 t3_17 t3_18 t3_19 t3_20 t3_21 t3_22 t3_23 t3_24 t3_25 t3_26 t3_27 t3_28 t3_29 t3_30 t3_31 t3_32 t3_33 t3_34 t3_35 t3_36 t3_37 t3_38 t3_39 t3_40 t3_41 t3_42 t3_43 t3_44 t3_45 t3_46 t3_47 t3_48 t3_49 t3_50 t3_51 t3_52 t3_53 t3_54 t3_55 t3_56 t3_57 t3_58 t3_59 t3_60 t3_61 t3_62 t3_63 t3_64 t3_65 t3_66 t3_67 t3_68 t3_69 t3_70 t3_71 t3_72 t3_73 t3_74 t3_75 t3_76 t3_77 t3_78 t3_79 t3_80 t3_81 t3_82 t3_83 t3_84 t3_85 t3_86 t3_87 t3_88 t3_89 t3_90 t3_91 t3_92 t3_93 t3_94 t3_95 t3_96 t3_97 t3_98 t3_99 t3_100 t3_101 t3_102 t3_103 t3_104 t3_105 t3_106 El3 ea Kl3 BF_l3 B0_l3 B1_l3 B2_l3 B3_l3 B4_l3
   subst ea
   have zl3_BF := BF_l3.lies
   have zl3_B0 := B0_l3.lies
   have zl3_B1 := B1_l3.lies
   have zl3_B2 := B2_l3.lies
   have zl3_B3 := B3_l3.lies
   have zl3_B4 := B4_l3.lies
   go_wp2_with fail
   refine wp_region_held_drew (S := fun w' => Arr w.heap.size (row 36 l) w' ∧ Arr w1.heap.size (row 6 s2.1) w') (by kernel_rfl) ⟨B0_l3.drew, B4_l3.drew⟩ (fun hHeld => ?_)
   refine zT (i := 0) (v := ?v97) rfl (by kernel_rfl) (fun _ _ _ h => h) (by rfl) ?y97 hHeld ?t97
   case y97 => (intro wx hSw; go_simp <;> with_reducible rfl)
   simp only [Act.put, zA, zB, zC]
   refine zT (i := 1) (v := ?v98) rfl (by kernel_rfl) (fun _ _ _ h => h) (by rfl) ?y98 hHeld ?t98
   case y98 => (intro wx hSw; go_simp <;> with_reducible rfl)
   simp only [Act.put, zA, zB, zC]
   refine zT (i := 2) (v := ?v99) rfl (by kernel_rfl) (fun _ _ _ h => h) (by rfl) ?y99 hHeld ?t99
   case y99 => (intro wx hSw; go_simp <;> with_reducible rfl)
   simp only [Act.put, zA, zB, zC]
   refine zT (i := 3) (v := ?v100) rfl (by kernel_rfl) (fun _ _ _ h => h) (by rfl) ?y100 hHeld ?t100
   case y100 => (intro wx hSw; go_simp <;> with_reducible rfl)
   simp only [Act.put, zA, zB, zC]
   refine zT (i := 4) (v := ?v101) rfl (by kernel_rfl) (fun _ _ _ h => h) (by rfl) ?y101 hHeld ?t101
   case y101 => (intro wx hSw; go_simp <;> with_reducible rfl)
   simp only [Act.put, zA, zB, zC]
   refine zT (i := 5) (v := ?v102) rfl (by kernel_rfl) (fun _ _ _ h => h) (by rfl) ?y102 hHeld ?t102
   case y102 => (intro wx hSw; have hi0 : (i : Int) < 6 := (by omega); go_simp <;> with_reducible rfl)
   simp only [Act.put, zA, zB, zC]
   refine zT (i := 6) (v := ?v103) rfl (by kernel_rfl) (fun _ _ _ h => h) (by rfl) ?y103 hHeld ?t103
   case y103 => (intro wx hSw; have hi0 : (k : Int) < 6 := (by omega); go_simp <;> with_reducible rfl)
   simp only [Act.put, zA, zB, zC]
   refine zT (i := 7) (v := ?v104) rfl (by kernel_rfl) (fun _ _ _ h => h) (by rfl) ?y104 hHeld ?t104
   case y104 => (intro wx hSw; have hc0 : wx.cell? ⟨w.heap.size, i * 6 + k, none⟩ = some (.int .i64 (l (i * 6 + k))) := row_c hSw.1 (i * 6 + k) (by omega); go_simp <;> with_reducible rfl)
   simp only [Act.put, zA, zB, zC]
   refine zT (i := 8) (v := ?v105) rfl (by kernel_rfl) (fun _ _ _ h => h) (by rfl) ?y105 hHeld ?t105
   case y105 => (intro wx hSw; go_simp <;> with_reducible rfl)
   simp only [Act.put, zA, zB, zC]
   refine zT (i := 9) (v := ?v106) rfl (by kernel_rfl) (fun _ _ _ h => h) (by rfl) ?y106 hHeld ?t106
   case y106 => (intro wx hSw; have hi0 : (k : Int) < 6 := (by omega); go_simp <;> with_reducible rfl)
   simp only [Act.put, zA, zB, zC]
   refine zT (i := 10) (v := ?v107) rfl (by kernel_rfl) (fun _ _ _ h => h) (by rfl) ?y107 hHeld ?t107
   case y107 => (intro wx hSw; have hc0 : wx.cell? ⟨w1.heap.size, k, none⟩ = some (.int .i64 (s2.1 k)) := row_c hSw.2 k (by omega); go_simp <;> with_reducible rfl)
   simp only [Act.put, zA, zB, zC]
   refine call_at (i := 11) (by kernel_rfl) rfl (fun K hK => ?_)
   go_simp
   refine (rMul_any b s3.2 (l (i * 6 + k)) (s2.1 k) _ BF_l3.drew).mono ?_
   rintro e w3 ⟨rfl, f3, k3⟩
   generalize e3 : mulS s3.2 (l (i * 6 + k)) (s2.1 k) = r3 at f3 ⊢
   have E3 : Hid _ := e3
   clear e3
   have K3 : Kept b w w3 := Kept.trans Kl3.drew k3
   have B0_3 := B0_l3.drew.kept k3 (zG y1_BF)
   have B1_3 := B1_l3.drew.kept k3 (zG y2_BF)
   have B2_3 := B2_l3.drew.kept k3 (zG y3_BF)
   have B3_3 := B3_l3.drew.kept k3 (zG y4_BF)
   have B4_3 := B4_l3.drew.kept k3 (zG y5_BF)
   have z3 := B4_3.lies
   clear hHeld
   refine hK.out _ _ ⟨B0_3, B4_3⟩ (fun hHeld => ?_)
   clear hK K BF_l3 B0_l3 B1_l3 B2_l3 B3_l3 B4_l3 k3
   refine call_at (i := 12) (by kernel_rfl) rfl (fun K hK => ?_)
   go_simp
   refine (rSub_any b r3.2 s3.1 r3.1 _ f3).mono ?_
   rintro e w4 ⟨rfl, f4, k4⟩
   generalize e4 : subS r3.2 s3.1 r3.1 = r4 at f4 ⊢
   have E4 : Hid _ := e4
   clear e4
   have K4 := Kept.trans K3 k4
   have B0_4 := B0_3.kept k4 (zG y1_BF)
   have B1_4 := B1_3.kept k4 (zG y2_BF)
   have B2_4 := B2_3.kept k4 (zG y3_BF)
   have B3_4 := B3_3.kept k4 (zG y4_BF)
   have B4_4 := B4_3.kept k4 (zG y5_BF)
   have z4 := B4_4.lies
   clear hHeld
   refine hK.out _ _ ⟨B0_4, B4_4⟩ (fun hHeld => ?_)
   clear hK K K3 f3 B0_3 B1_3 B2_3 B3_3 B4_3 k4
   refine zT (i := 13) (v := ?v108) rfl (by kernel_rfl) (fun _ _ _ h => h) (by rfl) ?y108 hHeld ?t108
   case y108 => (intro wx hSw; go_simp <;> with_reducible rfl)
   simp only [Act.put, zA, zB, zC]
   refine wpAnyH_done (by kernel_rfl) ?_ _
   clear hHeld
   go_wp2_with fail
   have hs3 : Hid (zSolveS_l3 l i s2 (r2.1, r2.2) (k + 1) = (r4.1, r4.2)) := by show _ = _; unfold zSolveS_l3; simp only [El3.out, E3.out, E4.out]
   rw [hJ3.out]
   intro G_ hG_
   exact hG_ (r4.1, r4.2) _ _ _ _ _ _ _ _ _ _ _ _ _ _ _ _ _ _ _ _ _ _ _ _ _ _ _ _ _ _ _ _ _ _ _ _ _ _ _ _ _ _ _ _ _ _ _ _ _ _ _ _ _ _ _ _ _ _ _ _ _ _ _ _ _ _ _ _ _ _ _ _ _ _ _ _ _ _ _ _ _ _ _ _ _ _ _ _ _ _ _ _ _ _ _ _ _ hs3 rfl K4 f4 B0_4 B1_4 B2_4 B3_4 B4_4
  ·intro a Wl3 hI R
   rw [hJ3.out] at hI
   refine hI _ ?_
   clear hI hJ3
   intro r5 t3_1 t3_2 t3_4 t3_7 t3_14 t3_15 t3_16 t3_17 t3_18 t3_19 t3_20 t3_21 t3_22 t3_23 t3_24 t3_25 t3_26 t3_27 t3_28 t3_29 t3_30 t3_31 t3_32 t3_33 t3_34 t3_35 t3_36 t3_37 t3_38 t3_39 t3_40 t3_41 t3_42 t3_43 t3_44 t3_45 t3_46 t3_47 t3_48 t3_49 t3_50 t3_51 t3_52 t3_53 t3_54 t3_55 t3_56 t3_57 t3_58 t3_59 t3_60 t3_61 t3_62 t3_63 t3_64 t3_65 t3_66 t3_67 t3_68 t3_69 t3_70 t3_71 t3_72 t3_73 t3_74 t3_75 t3_76 t3_77 t3_78 t3_79 t3_80 t3_81 t3_82 t3_83 t3_84 t3_85 t3_86 t3_87 t3_88 t3_89 t3_90 t3_91 t3_92 t3_93 t3_94 t3_95 t3_96 t3_97 t3_98 t3_99 t3_100 t3_101 t3_102 t3_103 t3_104 t3_105 t3_106 E5 ea Kl3 BF_l3 B0_l3 B1_l3 B2_l3 B3_l3 B4_l3
   subst ea
   have zl3_BF := BF_l3.lies
   have zl3_B0 := B0_l3.lies
   have zl3_B1 := B1_l3.lies
   have zl3_B2 := B2_l3.lies
   have zl3_B3 := B3_l3.lies
   have zl3_B4 := B4_l3.lies
   have c7_B0_0 : Wl3.cell? ⟨w.heap.size, i * 6 + i, none⟩ = some (.int .i64 (l (i * 6 + i))) := row_c B0_l3 (i * 6 + i) (by omega)
   have i7_1 : (i : Int) < 6 := by omega
   go_wp2_with fail
   refine (rDiv_any b r5.2 r5.1 (l (i * 6 + i)) _ BF_l3).mono ?_
   rintro e w6 ⟨rfl, f6, k6⟩
   generalize e6 : divS r5.2 r5.1 (l (i * 6 + i)) = r6 at f6 ⊢
   have E6 : Hid _ := e6
   clear e6
   have K6 : Kept b w w6 := Kept.trans Kl3 k6
   have B0_6 := B0_l3.kept k6 (zG y1_BF)
   have B1_6 := B1_l3.kept k6 (zG y2_BF)
   have B2_6 := B2_l3.kept k6 (zG y3_BF)
   have B3_6 := B3_l3.kept k6 (zG y4_BF)
   have B4_6 := B4_l3.kept k6 (zG y5_BF)
   have z6 := B4_6.lies
   clear c7_B0_0 i7_1 BF_l3 B0_l3 B1_l3 B2_l3 B3_l3 B4_l3 k6
   have c8_B4_0 : w6.cell? ⟨w1.heap.size, i, none⟩ = some (.int .i64 (s2.1 i)) := row_c B4_6 i (by omega)
   have g8_B4_1 := row_f B4_6 i (by omega)
   have i8_2 : (i : Int) < 6 := by omega
   go_wp2_with fail
   clear c8_B4_0 g8_B4_1 i8_2
   have hs2 : Hid (zSolveS_l2 l p ((fun _ => 0), bad) (i + 1) = ((updF s2.1 i r6.1), r6.2)) := by show _ = _; unfold zSolveS_l2; simp only [El2.out, E2.out, E5.out, E6.out]
   rw [hJ2.out]
   intro G_ hG_
   exact hG_ ((updF s2.1 i r6.1), r6.2) _ _ _ _ _ _ _ _ _ _ _ _ _ _ _ _ _ _ _ _ _ _ _ _ _ _ _ _ _ _ _ _ _ _ _ _ _ _ _ _ _ _ _ _ _ _ _ _ _ _ _ _ _ _ _ _ _ _ _ _ _ _ _ _ _ _ _ _ _ _ _ _ _ _ _ _ _ _ _ _ _ _ _ _ _ _ _ _ _ _ _ _ _ _ _ _ _ _ _ hs2 rfl (K6.new _ _ (by omega) _) (f6.new w1.heap.size i (zL y5_BF) (.int .i64 r6.1)) (B0_6.new w1.heap.size i (zL y5_B0) (.int .i64 r6.1)) (B1_6.new w1.heap.size i (zL y5_B1) (.int .i64 r6.1)) (B2_6.new w1.heap.size i (zL y5_B2) (.int .i64 r6.1)) (B3_6.new w1.heap.size i (zL y5_B3) (.int .i64 r6.1)) (row_put B4_6 i (by omega) r6.1)
 ·intro a Wl2 hI R
  rw [hJ2.out] at hI
  refine hI _ ?_
  clear hI hJ2
  intro r3 t2_1 t2_2 t2_4 t2_7 t2_12 t2_13 t2_14 t2_15 t2_16 t2_17 t2_18 t2_19 t2_20 t2_21 t2_22 t2_23 t2_24 t2_25 t2_26 t2_27 t2_28 t2_29 t2_30 t2_31 t2_32 t2_33 t2_34 t2_35 t2_36 t2_37 t2_38 t2_39 t2_40 t2_41 t2_42 t2_43 t2_44 t2_45 t2_46 t2_47 t2_48 t2_49 t2_50 t2_51 t2_52 t2_53 t2_54 t2_55 t2_56 t2_57 t2_58 t2_59 t2_60 t2_61 t2_62 t2_63 t2_64 t2_65 t2_66 t2_67 t2_68 t2_69 t2_70 t2_71 t2_72 t2_73 t2_74 t2_75 t2_76 t2_77 t2_78 t2_79 t2_80 t2_81 t2_82 t2_83 t2_84 t2_85 t2_86 t2_87 t2_88 t2_89 t2_90 t2_91 t2_92 t2_93 t2_94 t2_95 t2_96 t2_97 t2_98 t2_99 t2_100 t2_101 t2_102 t2_103 t2_104 t2_105 t2_106 E3 ea Kl2 BF_l2 B0_l2 B1_l2 B2_l2 B3_l2 B4_l2
  subst ea
  have zl2_BF := BF_l2.lies
  have zl2_B0 := B0_l2.lies
  have zl2_B1 := B1_l2.lies
  have zl2_B2 := B2_l2.lies
  have zl2_B3 := B3_l2.lies
  have zl2_B4 := B4_l2.lies
  go_wp2_with fail
  obtain ⟨J0, hJ0⟩ : ∃ J : Nat → Act → World → Prop, Hid (J = fun d a Wl0 => ∀ G_ : Prop, (∀ (s0 : (Nat → Int) × Bool) (t0_1 t0_2 t0_4 t0_6 t0_7 t0_11 t0_12 t0_13 t0_15 t0_16 t0_17 t0_18 t0_19 t0_20 t0_21 t0_22 t0_23 t0_24 t0_25 t0_26 t0_27 t0_28 t0_29 t0_30 t0_31 t0_32 t0_33 t0_34 t0_35 t0_36 t0_37 t0_38 t0_39 t0_40 t0_41 t0_42 t0_43 t0_44 t0_45 t0_46 t0_47 t0_48 t0_49 t0_50 t0_51 t0_52 t0_53 t0_54 t0_55 t0_56 t0_57 t0_58 t0_59 t0_60 t0_61 t0_62 t0_63 t0_64 t0_65 t0_66 t0_67 t0_68 t0_69 t0_70 t0_71 t0_72 t0_73 t0_74 t0_75 t0_76 t0_77 t0_78 t0_79 t0_80 t0_81 t0_82 t0_83 t0_84 t0_85 t0_86 t0_87 t0_88 t0_89 t0_90 t0_91 t0_92 t0_93 t0_94 t0_95 t0_96 t0_97 t0_98 t0_99 t0_100 t0_101 t0_102 t0_103 t0_104 t0_105 t0_106 : Value) (v0 : Int), Hid (zSolveS_l0 l n r3 ((fun _ => 0), r3.2) d = s0) → Hid (v0 = (n : Int) - 1 - (d : Int)) → a = { tmps := #[.pointer (some ⟨b, 0, none⟩), t0_1, t0_2, .int .i64 (n : Int), t0_4, .pointer (some ⟨w.heap.size, 0, none⟩), t0_6, t0_7, .pointer (some ⟨w.heap.size + 1 + 1, 0, none⟩), .pointer (some ⟨w.heap.size + 1 + 1 + 1, 0, none⟩), .pointer (some ⟨w1.heap.size, 0, none⟩), t0_11, t0_12, t0_13, .int .i64 v0, t0_15, t0_16, t0_17, t0_18, t0_19, t0_20, t0_21, t0_22, t0_23, t0_24, t0_25, t0_26, t0_27, t0_28, t0_29, t0_30, t0_31, t0_32, t0_33, t0_34, t0_35, t0_36, t0_37, t0_38, t0_39, t0_40, t0_41, t0_42, t0_43, t0_44, t0_45, t0_46, t0_47, t0_48, t0_49, t0_50, t0_51, t0_52, t0_53, t0_54, t0_55, t0_56, t0_57, t0_58, t0_59, t0_60, t0_61, t0_62, t0_63, t0_64, t0_65, t0_66, t0_67, t0_68, t0_69, t0_70, t0_71, t0_72, t0_73, t0_74, t0_75, t0_76, t0_77, t0_78, t0_79, t0_80, t0_81, t0_82, t0_83, t0_84, t0_85, t0_86, t0_87, t0_88, t0_89, t0_90, t0_91, t0_92, t0_93, t0_94, t0_95, t0_96, t0_97, t0_98, t0_99, t0_100, t0_101, t0_102, t0_103, t0_104, t0_105, t0_106], defers := [] } → Kept b w Wl0 → Fl b s0.2 Wl0 → Arr w.heap.size (row 36 l) Wl0 → Arr (w.heap.size + 1) (row 6 p) Wl0 → Arr (w.heap.size + 1 + 1) (row 6 (fun _ => 0)) Wl0 → Arr (w.heap.size + 1 + 1 + 1) (row 6 s0.1) Wl0 → Arr w1.heap.size (row 6 r3.1) Wl0 → G_) → G_) := ⟨_, rfl⟩
  refine rounds_up J0 n ?_ ?_ ?_
  ·rw [hJ0.out]
   intro G_ hG_
   exact hG_ ((fun _ => 0), r3.2) _ _ _ _ _ _ _ _ _ _ _ _ _ _ _ _ _ _ _ _ _ _ _ _ _ _ _ _ _ _ _ _ _ _ _ _ _ _ _ _ _ _ _ _ _ _ _ _ _ _ _ _ _ _ _ _ _ _ _ _ _ _ _ _ _ _ _ _ _ _ _ _ _ _ _ _ _ _ _ _ _ _ _ _ _ _ _ _ _ _ _ _ _ _ _ _ _ _ _ _ _ rfl (show _ = _ by omega) rfl Kl2 BF_l2 B0_l2 B1_l2 B2_l2 B3_l2 B4_l2
  ·intro d a Wl0 hd hI R hR
   rw [hJ0.out] at hI
   refine hI _ ?_
   clear hI
   intro s0 t0_1 t0_2 t0_4 t0_6 t0_7 t0_11 t0_12 t0_13 t0_15 t0_16 t0_17 t0_18 t0_19 t0_20 t0_21 t0_22 t0_23 t0_24 t0_25 t0_26 t0_27 t0_28 t0_29 t0_30 t0_31 t0_32 t0_33 t0_34 t0_35 t0_36 t0_37 t0_38 t0_39 t0_40 t0_41 t0_42 t0_43 t0_44 t0_45 t0_46 t0_47 t0_48 t0_49 t0_50 t0_51 t0_52 t0_53 t0_54 t0_55 t0_56 t0_57 t0_58 t0_59 t0_60 t0_61 t0_62 t0_63 t0_64 t0_65 t0_66 t0_67 t0_68 t0_69 t0_70 t0_71 t0_72 t0_73 t0_74 t0_75 t0_76 t0_77 t0_78 t0_79 t0_80 t0_81 t0_82 t0_83 t0_84 t0_85 t0_86 t0_87 t0_88 t0_89 t0_90 t0_91 t0_92 t0_93 t0_94 t0_95 t0_96 t0_97 t0_98 t0_99 t0_100 t0_101 t0_102 t0_103 t0_104 t0_105 t0_106 v0 El0 V0 ea Kl0 BF_l0 B0_l0 B1_l0 B2_l0 B3_l0 B4_l0
   subst ea
   have zl0_BF := BF_l0.lies
   have zl0_B0 := B0_l0.lies
   have zl0_B1 := B1_l0.lies
   have zl0_B2 := B2_l0.lies
   have zl0_B3 := B3_l0.lies
   have zl0_B4 := B4_l0.lies
   obtain ⟨i, hi⟩ : ∃ i, n - 1 - d = i := ⟨_, rfl⟩
   obtain rfl : v0 = (i : Int) := by have := V0.out; omega
   have Hi : i + d + 1 = n := by omega
   have Xi : Hid (n - 1 - d = i) := hi
   clear hi V0
   have c6_B4_0 : Wl0.cell? ⟨w1.heap.size, i, none⟩ = some (.int .i64 (r3.1 i)) := row_c B4_l0 i (by omega)
   have i6_1 : (i : Int) < 6 := by omega
   go_wp2_with fail
   clear c6_B4_0 i6_1
   obtain ⟨J1, hJ1⟩ : ∃ J : Nat → Act → World → Prop, Hid (J = fun k a Wl1 => ∀ G_ : Prop, (∀ (s1 : Int × Bool) (t1_1 t1_2 t1_4 t1_6 t1_7 t1_11 t1_12 t1_13 t1_17 t1_18 t1_19 t1_20 t1_21 t1_22 t1_23 t1_24 t1_25 t1_26 t1_27 t1_28 t1_29 t1_30 t1_31 t1_32 t1_33 t1_34 t1_35 t1_36 t1_37 t1_38 t1_39 t1_40 t1_41 t1_42 t1_43 t1_44 t1_45 t1_46 t1_47 t1_48 t1_49 t1_50 t1_51 t1_52 t1_53 t1_54 t1_55 t1_56 t1_57 t1_58 t1_59 t1_60 t1_61 t1_62 t1_63 t1_64 t1_65 t1_66 t1_67 t1_68 t1_69 t1_70 t1_71 t1_72 t1_73 t1_74 t1_75 t1_76 t1_77 t1_78 t1_79 t1_80 t1_81 t1_82 t1_83 t1_84 t1_85 t1_86 t1_87 t1_88 t1_89 t1_90 t1_91 t1_92 t1_93 t1_94 t1_95 t1_96 t1_97 t1_98 t1_99 t1_100 t1_101 t1_102 t1_103 t1_104 t1_105 t1_106 : Value) (v1 : Int), Hid (zSolveS_l1 l i s0 ((r3.1 i), s0.2) k = s1) → Hid (v1 = (i : Int) + 1 + (k : Int)) → a = { tmps := #[.pointer (some ⟨b, 0, none⟩), t1_1, t1_2, .int .i64 (n : Int), t1_4, .pointer (some ⟨w.heap.size, 0, none⟩), t1_6, t1_7, .pointer (some ⟨w.heap.size + 1 + 1, 0, none⟩), .pointer (some ⟨w.heap.size + 1 + 1 + 1, 0, none⟩), .pointer (some ⟨w1.heap.size, 0, none⟩), t1_11, t1_12, t1_13, .int .i64 (i : Int), .int .i64 s1.1, .int .i64 v1, t1_17, t1_18, t1_19, t1_20, t1_21, t1_22, t1_23, t1_24, t1_25, t1_26, t1_27, t1_28, t1_29, t1_30, t1_31, t1_32, t1_33, t1_34, t1_35, t1_36, t1_37, t1_38, t1_39, t1_40, t1_41, t1_42, t1_43, t1_44, t1_45, t1_46, t1_47, t1_48, t1_49, t1_50, t1_51, t1_52, t1_53, t1_54, t1_55, t1_56, t1_57, t1_58, t1_59, t1_60, t1_61, t1_62, t1_63, t1_64, t1_65, t1_66, t1_67, t1_68, t1_69, t1_70, t1_71, t1_72, t1_73, t1_74, t1_75, t1_76, t1_77, t1_78, t1_79, t1_80, t1_81, t1_82, t1_83, t1_84, t1_85, t1_86, t1_87, t1_88, t1_89, t1_90, t1_91, t1_92, t1_93, t1_94, t1_95, t1_96, t1_97, t1_98, t1_99, t1_100, t1_101, t1_102, t1_103, t1_104, t1_105, t1_106], defers := [] } → Kept b w Wl1 → Fl b s1.2 Wl1 → Arr w.heap.size (row 36 l) Wl1 → Arr (w.heap.size + 1) (row 6 p) Wl1 → Arr (w.heap.size + 1 + 1) (row 6 (fun _ => 0)) Wl1 → Arr (w.heap.size + 1 + 1 + 1) (row 6 s0.1) Wl1 → Arr w1.heap.size (row 6 r3.1) Wl1 → G_) → G_) := ⟨_, rfl⟩
   refine rounds_up J1 d ?_ ?_ ?_
   ·rw [hJ1.out]
    intro G_ hG_
    exact hG_ ((r3.1 i), s0.2) _ _ _ _ _ _ _ _ _ _ _ _ _ _ _ _ _ _ _ _ _ _ _ _ _ _ _ _ _ _ _ _ _ _ _ _ _ _ _ _ _ _ _ _ _ _ _ _ _ _ _ _ _ _ _ _ _ _ _ _ _ _ _ _ _ _ _ _ _ _ _ _ _ _ _ _ _ _ _ _ _ _ _ _ _ _ _ _ _ _ _ _ _ _ _ _ _ _ _ rfl (show _ = _ by omega) rfl Kl0 BF_l0 B0_l0 B1_l0 B2_l0 B3_l0 B4_l0
   ·intro k a Wl1 hk hI R hR
    rw [hJ1.out] at hI
    refine hI _ ?_
    clear hI
    intro s1 t1_1 t1_2 t1_4 t1_6 t1_7 t1_11 t1_12 t1_13 t1_17 t1_18 t1_19 t1_20 t1_21 t1_22 t1_23 t1_24 t1_25 t1_26 t1_27 t1_28 t1_29 t1_30 t1_31 t1_32 t1_33 t1_34 t1_35 t1_36 t1_37 t1_38 t1_39 t1_40 t1_41 t1_42 t1_43 t1_44 t1_45 t1_46 t1_47 t1_48 t1_49 t1_50 t1_51 t1_52 t1_53 t1_54 t1_55 t1_56 t1_57 t1_58 t1_59 t1_60 t1_61 t1_62 t1_63 t1_64 t1_65 t1_66 t1_67 t1_68 t1_69 t1_70 t1_71 t1_72 t1_73 t1_74 t1_75 t1_76 t1_77 t1_78 t1_79 t1_80 t1_81 t1_82 t1_83 t1_84 t1_85 t1_86 t1_87 t1_88 t1_89 t1_90 t1_91 t1_92 t1_93 t1_94 t1_95 t1_96 t1_97 t1_98 t1_99 t1_100 t1_101 t1_102 t1_103 t1_104 t1_105 t1_106 v1 El1 V1 ea Kl1 BF_l1 B0_l1 B1_l1 B2_l1 B3_l1 B4_l1
    subst ea
    have zl1_BF := BF_l1.lies
    have zl1_B0 := B0_l1.lies
    have zl1_B1 := B1_l1.lies
    have zl1_B2 := B2_l1.lies
    have zl1_B3 := B3_l1.lies
    have zl1_B4 := B4_l1.lies
    obtain ⟨u, hu⟩ : ∃ u, i + 1 + k = u := ⟨_, rfl⟩
    obtain rfl : v1 = (u : Int) := by have := V1.out; omega
    have Hu : i + 1 + k ≤ u ∧ u ≤ i + 1 + k ∧ u < n := by omega
    have Xu : Hid (i + 1 + k = u) := hu
    clear hu V1
    go_wp2_with fail
    refine wp_region_held_drew (S := fun w' => Arr w.heap.size (row 36 l) w' ∧ Arr (w.heap.size + 1 + 1 + 1) (row 6 s0.1) w') (by kernel_rfl) ⟨B0_l1.drew, B3_l1.drew⟩ (fun hHeld => ?_)
    refine zT (i := 0) (v := ?v205) rfl (by kernel_rfl) (fun _ _ _ h => h) (by rfl) ?y205 hHeld ?t205
    case y205 => (intro wx hSw; go_simp <;> with_reducible rfl)
    simp only [Act.put, zA, zB, zC]
    refine zT (i := 1) (v := ?v206) rfl (by kernel_rfl) (fun _ _ _ h => h) (by rfl) ?y206 hHeld ?t206
    case y206 => (intro wx hSw; go_simp <;> with_reducible rfl)
    simp only [Act.put, zA, zB, zC]
    refine zT (i := 2) (v := ?v207) rfl (by kernel_rfl) (fun _ _ _ h => h) (by rfl) ?y207 hHeld ?t207
    case y207 => (intro wx hSw; go_simp <;> with_reducible rfl)
    simp only [Act.put, zA, zB, zC]
    refine zT (i := 3) (v := ?v208) rfl (by kernel_rfl) (fun _ _ _ h => h) (by rfl) ?y208 hHeld ?t208
    case y208 => (intro wx hSw; go_simp <;> with_reducible rfl)
    simp only [Act.put, zA, zB, zC]
    refine zT (i := 4) (v := ?v209) rfl (by kernel_rfl) (fun _ _ _ h => h) (by rfl) ?y209 hHeld ?t209
    case y209 => (intro wx hSw; go_simp <;> with_reducible rfl)
    simp only [Act.put, zA, zB, zC]
    refine zT (i := 5) (v := ?v210) rfl (by kernel_rfl) (fun _ _ _ h => h) (by rfl) ?y210 hHeld ?t210
    case y210 => (intro wx hSw; have hi0 : (u : Int) < 6 := (by omega); go_simp <;> with_reducible rfl)
    simp only [Act.put, zA, zB, zC]
    refine zT (i := 6) (v := ?v211) rfl (by kernel_rfl) (fun _ _ _ h => h) (by rfl) ?y211 hHeld ?t211
    case y211 => (intro wx hSw; have hi0 : (i : Int) < 6 := (by omega); go_simp <;> with_reducible rfl)
    simp only [Act.put, zA, zB, zC]
    refine zT (i := 7) (v := ?v212) rfl (by kernel_rfl) (fun _ _ _ h => h) (by rfl) ?y212 hHeld ?t212
    case y212 => (intro wx hSw; have hc0 : wx.cell? ⟨w.heap.size, u * 6 + i, none⟩ = some (.int .i64 (l (u * 6 + i))) := row_c hSw.1 (u * 6 + i) (by omega); go_simp <;> with_reducible rfl)
    simp only [Act.put, zA, zB, zC]
    refine zT (i := 8) (v := ?v213) rfl (by kernel_rfl) (fun _ _ _ h => h) (by rfl) ?y213 hHeld ?t213
    case y213 => (intro wx hSw; go_simp <;> with_reducible rfl)
    simp only [Act.put, zA, zB, zC]
    refine zT (i := 9) (v := ?v214) rfl (by kernel_rfl) (fun _ _ _ h => h) (by rfl) ?y214 hHeld ?t214
    case y214 => (intro wx hSw; have hi0 : (u : Int) < 6 := (by omega); go_simp <;> with_reducible rfl)
    simp only [Act.put, zA, zB, zC]
    refine zT (i := 10) (v := ?v215) rfl (by kernel_rfl) (fun _ _ _ h => h) (by rfl) ?y215 hHeld ?t215
    case y215 => (intro wx hSw; have hc0 : wx.cell? ⟨w.heap.size + 1 + 1 + 1, u, none⟩ = some (.int .i64 (s0.1 u)) := row_c hSw.2 u (by omega); go_simp <;> with_reducible rfl)
    simp only [Act.put, zA, zB, zC]
    refine call_at (i := 11) (by kernel_rfl) rfl (fun K hK => ?_)
    go_simp
    refine (rMul_any b s1.2 (l (u * 6 + i)) (s0.1 u) _ BF_l1.drew).mono ?_
    rintro e w4 ⟨rfl, f4, k4⟩
    generalize e4 : mulS s1.2 (l (u * 6 + i)) (s0.1 u) = r4 at f4 ⊢
    have E4 : Hid _ := e4
    clear e4
    have K4 : Kept b w w4 := Kept.trans Kl1.drew k4
    have B0_4 := B0_l1.drew.kept k4 (zG y1_BF)
    have B1_4 := B1_l1.drew.kept k4 (zG y2_BF)
    have B2_4 := B2_l1.drew.kept k4 (zG y3_BF)
    have B3_4 := B3_l1.drew.kept k4 (zG y4_BF)
    have B4_4 := B4_l1.drew.kept k4 (zG y5_BF)
    have z4 := B4_4.lies
    clear hHeld
    refine hK.out _ _ ⟨B0_4, B3_4⟩ (fun hHeld => ?_)
    clear hK K BF_l1 B0_l1 B1_l1 B2_l1 B3_l1 B4_l1 k4
    refine call_at (i := 12) (by kernel_rfl) rfl (fun K hK => ?_)
    go_simp
    refine (rSub_any b r4.2 s1.1 r4.1 _ f4).mono ?_
    rintro e w5 ⟨rfl, f5, k5⟩
    generalize e5 : subS r4.2 s1.1 r4.1 = r5 at f5 ⊢
    have E5 : Hid _ := e5
    clear e5
    have K5 := Kept.trans K4 k5
    have B0_5 := B0_4.kept k5 (zG y1_BF)
    have B1_5 := B1_4.kept k5 (zG y2_BF)
    have B2_5 := B2_4.kept k5 (zG y3_BF)
    have B3_5 := B3_4.kept k5 (zG y4_BF)
    have B4_5 := B4_4.kept k5 (zG y5_BF)
    have z5 := B4_5.lies
    clear hHeld
    refine hK.out _ _ ⟨B0_5, B3_5⟩ (fun hHeld => ?_)
    clear hK K K4 f4 B0_4 B1_4 B2_4 B3_4 B4_4 k5
    refine zT (i := 13) (v := ?v216) rfl (by kernel_rfl) (fun _ _ _ h => h) (by rfl) ?y216 hHeld ?t216
    case y216 => (intro wx hSw; go_simp <;> with_reducible rfl)
    simp only [Act.put, zA, zB, zC]
    refine wpAnyH_done (by kernel_rfl) ?_ _
    clear hHeld
    go_wp2_with fail
    have hs1 : Hid (zSolveS_l1 l i s0 ((r3.1 i), s0.2) (k + 1) = (r5.1, r5.2)) := by show _ = _; unfold zSolveS_l1; simp only [Xu.out, El1.out, E4.out, E5.out]
    rw [hJ1.out]
    intro G_ hG_
    exact hG_ (r5.1, r5.2) _ _ _ _ _ _ _ _ _ _ _ _ _ _ _ _ _ _ _ _ _ _ _ _ _ _ _ _ _ _ _ _ _ _ _ _ _ _ _ _ _ _ _ _ _ _ _ _ _ _ _ _ _ _ _ _ _ _ _ _ _ _ _ _ _ _ _ _ _ _ _ _ _ _ _ _ _ _ _ _ _ _ _ _ _ _ _ _ _ _ _ _ _ _ _ _ _ _ _ hs1 (show _ = _ by omega) rfl K5 f5 B0_5 B1_5 B2_5 B3_5 B4_5
   ·intro a Wl1 hI R
    rw [hJ1.out] at hI
    refine hI _ ?_
    clear hI hJ1
    intro r6 t1_1 t1_2 t1_4 t1_6 t1_7 t1_11 t1_12 t1_13 t1_17 t1_18 t1_19 t1_20 t1_21 t1_22 t1_23 t1_24 t1_25 t1_26 t1_27 t1_28 t1_29 t1_30 t1_31 t1_32 t1_33 t1_34 t1_35 t1_36 t1_37 t1_38 t1_39 t1_40 t1_41 t1_42 t1_43 t1_44 t1_45 t1_46 t1_47 t1_48 t1_49 t1_50 t1_51 t1_52 t1_53 t1_54 t1_55 t1_56 t1_57 t1_58 t1_59 t1_60 t1_61 t1_62 t1_63 t1_64 t1_65 t1_66 t1_67 t1_68 t1_69 t1_70 t1_71 t1_72 t1_73 t1_74 t1_75 t1_76 t1_77 t1_78 t1_79 t1_80 t1_81 t1_82 t1_83 t1_84 t1_85 t1_86 t1_87 t1_88 t1_89 t1_90 t1_91 t1_92 t1_93 t1_94 t1_95 t1_96 t1_97 t1_98 t1_99 t1_100 t1_101 t1_102 t1_103 t1_104 t1_105 t1_106 v1 E6 V1 ea Kl1 BF_l1 B0_l1 B1_l1 B2_l1 B3_l1 B4_l1
    subst ea
    have zl1_BF := BF_l1.lies
    have zl1_B0 := B0_l1.lies
    have zl1_B1 := B1_l1.lies
    have zl1_B2 := B2_l1.lies
    have zl1_B3 := B3_l1.lies
    have zl1_B4 := B4_l1.lies
    obtain rfl : v1 = (n : Int) := by have := V1.out; omega
    clear V1
    have c9_B0_0 : Wl1.cell? ⟨w.heap.size, i * 6 + i, none⟩ = some (.int .i64 (l (i * 6 + i))) := row_c B0_l1 (i * 6 + i) (by omega)
    have i9_1 : (i : Int) < 6 := by omega
    go_wp2_with fail
    refine (rDiv_any b r6.2 r6.1 (l (i * 6 + i)) _ BF_l1).mono ?_
    rintro e w7 ⟨rfl, f7, k7⟩
    generalize e7 : divS r6.2 r6.1 (l (i * 6 + i)) = r7 at f7 ⊢
    have E7 : Hid _ := e7
    clear e7
    have K7 : Kept b w w7 := Kept.trans Kl1 k7
    have B0_7 := B0_l1.kept k7 (zG y1_BF)
    have B1_7 := B1_l1.kept k7 (zG y2_BF)
    have B2_7 := B2_l1.kept k7 (zG y3_BF)
    have B3_7 := B3_l1.kept k7 (zG y4_BF)
    have B4_7 := B4_l1.kept k7 (zG y5_BF)
    have z7 := B4_7.lies
    clear c9_B0_0 i9_1 BF_l1 B0_l1 B1_l1 B2_l1 B3_l1 B4_l1 k7
    have c10_B3_0 : w7.cell? ⟨w.heap.size + 1 + 1 + 1, i, none⟩ = some (.int .i64 (s0.1 i)) := row_c B3_7 i (by omega)
    have g10_B3_1 := row_f B3_7 i (by omega)
    have i10_2 : (i : Int) < 6 := by omega
    go_wp2_with fail
    clear c10_B3_0 g10_B3_1 i10_2
    have hs0 : Hid (zSolveS_l0 l n r3 ((fun _ => 0), r3.2) (d + 1) = ((updF s0.1 i r7.1), r7.2)) := by show _ = _; unfold zSolveS_l0; simp only [Xi.out, El0.out, E6.out, E7.out]
    rw [hJ0.out]
    intro G_ hG_
    exact hG_ ((updF s0.1 i r7.1), r7.2) _ _ _ _ _ _ _ _ _ _ _ _ _ _ _ _ _ _ _ _ _ _ _ _ _ _ _ _ _ _ _ _ _ _ _ _ _ _ _ _ _ _ _ _ _ _ _ _ _ _ _ _ _ _ _ _ _ _ _ _ _ _ _ _ _ _ _ _ _ _ _ _ _ _ _ _ _ _ _ _ _ _ _ _ _ _ _ _ _ _ _ _ _ _ _ _ _ _ _ _ _ hs0 (show _ = _ by omega) rfl (K7.new _ _ (by omega) _) (f7.new (w.heap.size + 1 + 1 + 1) i (zL y4_BF) (.int .i64 r7.1)) (B0_7.new (w.heap.size + 1 + 1 + 1) i (zL y4_B0) (.int .i64 r7.1)) (B1_7.new (w.heap.size + 1 + 1 + 1) i (zL y4_B1) (.int .i64 r7.1)) (B2_7.new (w.heap.size + 1 + 1 + 1) i (zL y4_B2) (.int .i64 r7.1)) (row_put B3_7 i (by omega) r7.1) (B4_7.new (w.heap.size + 1 + 1 + 1) i (zG y5_B3) (.int .i64 r7.1))
  ·intro a Wl0 hI R
   rw [hJ0.out] at hI
   refine hI _ ?_
   clear hI hJ0
   intro r4 t0_1 t0_2 t0_4 t0_6 t0_7 t0_11 t0_12 t0_13 t0_15 t0_16 t0_17 t0_18 t0_19 t0_20 t0_21 t0_22 t0_23 t0_24 t0_25 t0_26 t0_27 t0_28 t0_29 t0_30 t0_31 t0_32 t0_33 t0_34 t0_35 t0_36 t0_37 t0_38 t0_39 t0_40 t0_41 t0_42 t0_43 t0_44 t0_45 t0_46 t0_47 t0_48 t0_49 t0_50 t0_51 t0_52 t0_53 t0_54 t0_55 t0_56 t0_57 t0_58 t0_59 t0_60 t0_61 t0_62 t0_63 t0_64 t0_65 t0_66 t0_67 t0_68 t0_69 t0_70 t0_71 t0_72 t0_73 t0_74 t0_75 t0_76 t0_77 t0_78 t0_79 t0_80 t0_81 t0_82 t0_83 t0_84 t0_85 t0_86 t0_87 t0_88 t0_89 t0_90 t0_91 t0_92 t0_93 t0_94 t0_95 t0_96 t0_97 t0_98 t0_99 t0_100 t0_101 t0_102 t0_103 t0_104 t0_105 t0_106 v0 E4 V0 ea Kl0 BF_l0 B0_l0 B1_l0 B2_l0 B3_l0 B4_l0
   subst ea
   have zl0_BF := BF_l0.lies
   have zl0_B0 := B0_l0.lies
   have zl0_B1 := B1_l0.lies
   have zl0_B2 := B2_l0.lies
   have zl0_B3 := B3_l0.lies
   have zl0_B4 := B4_l0.lies
   obtain rfl : v0 = -1 := by have := V0.out; omega
   clear V0
   rcases Bool.eq_false_or_eq_true r4.2 with hc1 | hc1
   ·have Hhc1 : Hid (r4.2 = true) := hc1
    have c7_BF := BF_l0.cell
    go_wp2_with (refine store_stop rfl (by kernel_rfl) ?_)
    clear c7_BF
    refine Stop.mk (store_row (l' := row 6 (fun _ => 0)) rfl rfl rfl rfl B2_l0 (by simp only [row_len]) (by rw [row_len]; kernel_rfl) (row_one _ _) ?_)
    intro w5 B2_5 o5
    have K5 : Kept b w w5 := Kept.off Kl0 o5 (by omega)
    have BF_5 := BF_l0.off o5 (zL y3_BF)
    have B0_5 := B0_l0.off o5 (zL y3_B0)
    have B1_5 := B1_l0.off o5 (zL y3_B1)
    have B3_5 := B3_l0.off o5 (zG y4_B2)
    have B4_5 := B4_l0.off o5 (zG y5_B2)
    have z5_B2 := B2_5.lies
    have z5_BF := BF_5.lies
    have z5_B0 := B0_5.lies
    have z5_B1 := B1_5.lies
    have z5_B3 := B3_5.lies
    have z5_B4 := B4_5.lies
    clear B2_l0 BF_l0 B0_l0 B1_l0 B3_l0 B4_l0 o5
    go_wp2_with (with_reducible refine post_stop ?_)
    refine Stop.mk ?_
    refine bodyPost_ret (v := .agg (row 6 (fun _ => 0)).toArray) (results_arr Tryz.results55 B2_5 rfl (by kernel_rfl) (by rw [row_len]; kernel_rfl)) rfl ?_
    have hs : zSolveS bad l p n = ((fun _ => 0), r4.2) := by unfold zSolveS; simp only [E3.out, E4.out]; rw [if_pos Hhc1.out]
    rw [hs]
    exact ⟨rfl, BF_5, K5⟩
   ·have Hhc1 : Hid (r4.2 = false) := hc1
    have c7_BF := BF_l0.cell
    go_wp2_with (first | (refine row_load rfl rfl rfl B3_l0 (by kernel_rfl) (by rw [row_len]; kernel_rfl) ?_) | (refine store_stop rfl (by kernel_rfl) ?_))
    clear c7_BF
    refine Stop.mk (store_row (l' := row 6 r4.1) rfl rfl rfl rfl B2_l0 (by simp only [row_len]) (by rw [row_len]; kernel_rfl) (row_one _ _) ?_)
    intro w5 B2_5 o5
    have K5 : Kept b w w5 := Kept.off Kl0 o5 (by omega)
    have BF_5 := BF_l0.off o5 (zL y3_BF)
    have B0_5 := B0_l0.off o5 (zL y3_B0)
    have B1_5 := B1_l0.off o5 (zL y3_B1)
    have B3_5 := B3_l0.off o5 (zG y4_B2)
    have B4_5 := B4_l0.off o5 (zG y5_B2)
    have z5_B2 := B2_5.lies
    have z5_BF := BF_5.lies
    have z5_B0 := B0_5.lies
    have z5_B1 := B1_5.lies
    have z5_B3 := B3_5.lies
    have z5_B4 := B4_5.lies
    clear B2_l0 BF_l0 B0_l0 B1_l0 B3_l0 B4_l0 o5
    go_wp2_with (with_reducible refine post_stop ?_)
    refine Stop.mk ?_
    refine bodyPost_ret (v := .agg (row 6 r4.1).toArray) (results_arr Tryz.results55 B2_5 rfl (by kernel_rfl) (by rw [row_len]; kernel_rfl)) rfl ?_
    have hs : zSolveS bad l p n = (r4.1, r4.2) := by unfold zSolveS; simp only [E3.out, E4.out]; rw [if_neg (by rw [Hhc1.out]; decide)]
    rw [hs]
    exact ⟨rfl, BF_5, K5⟩
end Go.Proofs.YtpjobkbefgehjaaGreat
namespace Go.Proofs.YtpjobkbefgehjaaGreat
open Go.RowKit

set_option maxRecDepth 100000 in
set_option maxHeartbeats 2000000 in
theorem zApply_any (b : Nat) (bad : Bool) (m : Nat → Int) (p : Nat → Int) (n : Nat) (w : World) (hw : Fl b bad w) (hb : Hid (bad = false)) (h1 : 1 ≤ n) (h6 : n ≤ 6) :
  Calls Tryz.prog 57 #[.pointer (some ⟨b, 0, none⟩), .agg (row 36 m).toArray, .agg (row 6 p).toArray, .int .i64 (n : Int)] w fun e w' => e = .returned (.agg (row 6 ((zApplyS bad m p n).1)).toArray) ∧ Fl b (zApplyS bad m p n).2 w' ∧ Kept b w w' := by
 have hl := hw.lies
 go_enter Tryz.func57, Tryz.ntmps57
 have y1_BF := hw.lies
 have y2_BF : b < w.heap.size + 1 := (Nat.lt_succ_of_lt hw.lies)
 have y2_B0 : w.heap.size < w.heap.size + 1 := (Nat.lt_succ_self _)
 have y3_BF : b < w.heap.size + 1 + 1 := (Nat.lt_succ_of_lt (Nat.lt_succ_of_lt hw.lies))
 have y3_B0 : w.heap.size < w.heap.size + 1 + 1 := (Nat.lt_succ_of_lt (Nat.lt_succ_self _))
 have y3_B1 : w.heap.size + 1 < w.heap.size + 1 + 1 := (Nat.lt_succ_self _)
 have y4_BF : b < w.heap.size + 1 + 1 + 1 := (Nat.lt_succ_of_lt (Nat.lt_succ_of_lt (Nat.lt_succ_of_lt hw.lies)))
 have y4_B0 : w.heap.size < w.heap.size + 1 + 1 + 1 := (Nat.lt_succ_of_lt (Nat.lt_succ_of_lt (Nat.lt_succ_self _)))
 have y4_B1 : w.heap.size + 1 < w.heap.size + 1 + 1 + 1 := (Nat.lt_succ_of_lt (Nat.lt_succ_self _))
 have y4_B2 : w.heap.size + 1 + 1 < w.heap.size + 1 + 1 + 1 := (Nat.lt_succ_self _)
 go_wp2_with fail
 refine (zsize_any b bad (n : Int) _ ((((hw.alloc _).alloc _).alloc _).alloc _)).mono ?_
 rintro e w1 ⟨rfl, f1, k1⟩
 rw [(size_in hb h1 h6)] at f1 ⊢
 dsimp only at f1 ⊢
 have K1 : Kept b w w1 := Kept.trans (((((Kept.refl b w).al _).al _).al _).al _) k1
 have B0_1 : Arr w.heap.size (row 36 m) w1 := ((((Arr_at _ _ (row 36 m) _ (by simp)).alloc _).alloc _).alloc _).kept k1 (zG y1_BF)
 have B1_1 : Arr (w.heap.size + 1) (row 6 p) w1 := (((Arr_at _ _ (row 6 p) _ (by simp)).alloc _).alloc _).kept k1 (zG y2_BF)
 have B2_1 : Arr (w.heap.size + 1 + 1) [.int .i64 0, .int .i64 0, .int .i64 0, .int .i64 0, .int .i64 0, .int .i64 0] w1 := ((Arr_at _ _ [.int .i64 0, .int .i64 0, .int .i64 0, .int .i64 0, .int .i64 0, .int .i64 0] _ (by simp)).alloc _).kept k1 (zG y3_BF)
 have B3_1 : Arr (w.heap.size + 1 + 1 + 1) [.int .i64 0, .int .i64 0, .int .i64 0, .int .i64 0, .int .i64 0, .int .i64 0] w1 := (Arr_at _ _ [.int .i64 0, .int .i64 0, .int .i64 0, .int .i64 0, .int .i64 0, .int .i64 0] _ (by simp)).kept k1 (zG y4_BF)
 have z1 := B3_1.lies
 clear k1
 go_wp2_with fail
 obtain ⟨J0, hJ0⟩ : ∃ J : Nat → Act → World → Prop, Hid (J = fun i a Wl0 => ∀ G_ : Prop, (∀ (s0 : (Nat → Int) × Bool) (t0_1 t0_2 t0_4 t0_7 t0_11 t0_12 t0_13 t0_14 t0_15 t0_16 t0_17 t0_18 t0_19 t0_20 t0_21 t0_22 t0_23 t0_24 t0_25 t0_26 t0_27 t0_28 t0_29 t0_30 t0_31 t0_32 t0_33 t0_34 t0_35 t0_36 t0_37 t0_38 t0_39 t0_40 t0_41 t0_42 t0_43 t0_44 t0_45 t0_46 t0_47 t0_48 t0_49 t0_50 : Value), Hid (zApplyS_l0 m p n ((fun _ => 0), bad) i = s0) → a = { tmps := #[.pointer (some ⟨b, 0, none⟩), t0_1, t0_2, .int .i64 (n : Int), t0_4, .pointer (some ⟨w.heap.size, 0, none⟩), .pointer (some ⟨w.heap.size + 1, 0, none⟩), t0_7, .pointer (some ⟨w.heap.size + 1 + 1, 0, none⟩), .pointer (some ⟨w.heap.size + 1 + 1 + 1, 0, none⟩), .int .i64 (i : Int), t0_11, t0_12, t0_13, t0_14, t0_15, t0_16, t0_17, t0_18, t0_19, t0_20, t0_21, t0_22, t0_23, t0_24, t0_25, t0_26, t0_27, t0_28, t0_29, t0_30, t0_31, t0_32, t0_33, t0_34, t0_35, t0_36, t0_37, t0_38, t0_39, t0_40, t0_41, t0_42, t0_43, t0_44, t0_45, t0_46, t0_47, t0_48, t0_49, t0_50], defers := [] } → Kept b w Wl0 → Fl b s0.2 Wl0 → Arr w.heap.size (row 36 m) Wl0 → Arr (w.heap.size + 1) (row 6 p) Wl0 → Arr (w.heap.size + 1 + 1) (row 6 (fun _ => 0)) Wl0 → Arr (w.heap.size + 1 + 1 + 1) (row 6 s0.1) Wl0 → G_) → G_) := ⟨_, rfl⟩
 refine rounds_up J0 n ?_ ?_ ?_
 ·rw [hJ0.out]
  intro G_ hG_
  exact hG_ ((fun _ => 0), bad) _ _ _ _ _ _ _ _ _ _ _ _ _ _ _ _ _ _ _ _ _ _ _ _ _ _ _ _ _ _ _ _ _ _ _ _ _ _ _ _ _ _ _ _ rfl rfl K1 f1 B0_1 B1_1 B2_1 B3_1
 ·intro i a Wl0 hi hI R hR
  rw [hJ0.out] at hI
  refine hI _ ?_
  clear hI
  intro s0 t0_1 t0_2 t0_4 t0_7 t0_11 t0_12 t0_13 t0_14 t0_15 t0_16 t0_17 t0_18 t0_19 t0_20 t0_21 t0_22 t0_23 t0_24 t0_25 t0_26 t0_27 t0_28 t0_29 t0_30 t0_31 t0_32 t0_33 t0_34 t0_35 t0_36 t0_37 t0_38 t0_39 t0_40 t0_41 t0_42 t0_43 t0_44 t0_45 t0_46 t0_47 t0_48 t0_49 t0_50 El0 ea Kl0 BF_l0 B0_l0 B1_l0 B2_l0 B3_l0
  subst ea
  have zl0_BF := BF_l0.lies
  have zl0_B0 := B0_l0.lies
  have zl0_B1 := B1_l0.lies
  have zl0_B2 := B2_l0.lies
  have zl0_B3 := B3_l0.lies
  go_wp2_with fail
  obtain ⟨J1, hJ1⟩ : ∃ J : Nat → Act → World → Prop, Hid (J = fun k a Wl1 => ∀ G_ : Prop, (∀ (s1 : Int × Bool) (t1_1 t1_2 t1_4 t1_7 t1_13 t1_14 t1_15 t1_16 t1_17 t1_18 t1_19 t1_20 t1_21 t1_22 t1_23 t1_24 t1_25 t1_26 t1_27 t1_28 t1_29 t1_30 t1_31 t1_32 t1_33 t1_34 t1_35 t1_36 t1_37 t1_38 t1_39 t1_40 t1_41 t1_42 t1_43 t1_44 t1_45 t1_46 t1_47 t1_48 t1_49 t1_50 : Value), Hid (zApplyS_l1 m p i (0, s0.2) k = s1) → a = { tmps := #[.pointer (some ⟨b, 0, none⟩), t1_1, t1_2, .int .i64 (n : Int), t1_4, .pointer (some ⟨w.heap.size, 0, none⟩), .pointer (some ⟨w.heap.size + 1, 0, none⟩), t1_7, .pointer (some ⟨w.heap.size + 1 + 1, 0, none⟩), .pointer (some ⟨w.heap.size + 1 + 1 + 1, 0, none⟩), .int .i64 (i : Int), .int .i64 s1.1, .int .i64 (k : Int), t1_13, t1_14, t1_15, t1_16, t1_17, t1_18, t1_19, t1_20, t1_21, t1_22, t1_23, t1_24, t1_25, t1_26, t1_27, t1_28, t1_29, t1_30, t1_31, t1_32, t1_33, t1_34, t1_35, t1_36, t1_37, t1_38, t1_39, t1_40, t1_41, t1_42, t1_43, t1_44, t1_45, t1_46, t1_47, t1_48, t1_49, t1_50], defers := [] } → Kept b w Wl1 → Fl b s1.2 Wl1 → Arr w.heap.size (row 36 m) Wl1 → Arr (w.heap.size + 1) (row 6 p) Wl1 → Arr (w.heap.size + 1 + 1) (row 6 (fun _ => 0)) Wl1 → Arr (w.heap.size + 1 + 1 + 1) (row 6 s0.1) Wl1 → G_) → G_) := ⟨_, rfl⟩
  refine rounds_up J1 n ?_ ?_ ?_
  ·rw [hJ1.out]
   intro G_ hG_
   exact hG_ (0, s0.2) _ _ _ _ _ _ _ _ _ _ _ _ _ _ _ _ _ _ _ _ _ _ _ _ _ _ _ _ _ _ _ _ _ _ _ _ _ _ _ _ _ _ rfl rfl Kl0 BF_l0 B0_l0 B1_l0 B2_l0 B3_l0
  ·intro k a Wl1 hk hI R hR
   rw [hJ1.out] at hI
   refine hI _ ?_
   clear hI
   intro s1 t1_1 t1_2 t1_4 t1_7 t1_13 t1_14 t1_15 t1_16 t1_17 t1_18 t1_19 t1_20 t1_21 t1_22 t1_23 t1_24 t1_25 t1_26 t1_27 t1_28 t1_29 t1_30 t1_31 t1_32 t1_33 t1_34 t1_35 t1_36 t1_37 t1_38 t1_39 t1_40 t1_41 t1_42 t1_43 t1_44 t1_45 t1_46 t1_47 t1_48 t1_49 t1_50 El1 ea Kl1 BF_l1 B0_l1 B1_l1 B2_l1 B3_l1
   subst ea
   have zl1_BF := BF_l1.lies
   have zl1_B0 := B0_l1.lies
   have zl1_B1 := B1_l1.lies
   have zl1_B2 := B2_l1.lies
   have zl1_B3 := B3_l1.lies
   go_wp2_with fail
   refine wp_region_held_drew (S := fun w' => Arr w.heap.size (row 36 m) w' ∧ Arr (w.heap.size + 1) (row 6 p) w') (by kernel_rfl) ⟨B0_l1.drew, B1_l1.drew⟩ (fun hHeld => ?_)
   refine zT (i := 0) (v := ?v97) rfl (by kernel_rfl) (fun _ _ _ h => h) (by rfl) ?y97 hHeld ?t97
   case y97 => (intro wx hSw; go_simp <;> with_reducible rfl)
   simp only [Act.put, zA, zB, zC]
   refine zT (i := 1) (v := ?v98) rfl (by kernel_rfl) (fun _ _ _ h => h) (by rfl) ?y98 hHeld ?t98
   case y98 => (intro wx hSw; go_simp <;> with_reducible rfl)
   simp only [Act.put, zA, zB, zC]
   refine zT (i := 2) (v := ?v99) rfl (by kernel_rfl) (fun _ _ _ h => h) (by rfl) ?y99 hHeld ?t99
   case y99 => (intro wx hSw; go_simp <;> with_reducible rfl)
   simp only [Act.put, zA, zB, zC]
   refine zT (i := 3) (v := ?v100) rfl (by kernel_rfl) (fun _ _ _ h => h) (by rfl) ?y100 hHeld ?t100
   case y100 => (intro wx hSw; go_simp <;> with_reducible rfl)
   simp only [Act.put, zA, zB, zC]
   refine zT (i := 4) (v := ?v101) rfl (by kernel_rfl) (fun _ _ _ h => h) (by rfl) ?y101 hHeld ?t101
   case y101 => (intro wx hSw; go_simp <;> with_reducible rfl)
   simp only [Act.put, zA, zB, zC]
   refine zT (i := 5) (v := ?v102) rfl (by kernel_rfl) (fun _ _ _ h => h) (by rfl) ?y102 hHeld ?t102
   case y102 => (intro wx hSw; have hi0 : (i : Int) < 6 := (by omega); go_simp <;> with_reducible rfl)
   simp only [Act.put, zA, zB, zC]
   refine zT (i := 6) (v := ?v103) rfl (by kernel_rfl) (fun _ _ _ h => h) (by rfl) ?y103 hHeld ?t103
   case y103 => (intro wx hSw; have hi0 : (k : Int) < 6 := (by omega); go_simp <;> with_reducible rfl)
   simp only [Act.put, zA, zB, zC]
   refine zT (i := 7) (v := ?v104) rfl (by kernel_rfl) (fun _ _ _ h => h) (by rfl) ?y104 hHeld ?t104
   case y104 => (intro wx hSw; have hc0 : wx.cell? ⟨w.heap.size, i * 6 + k, none⟩ = some (.int .i64 (m (i * 6 + k))) := row_c hSw.1 (i * 6 + k) (by omega); go_simp <;> with_reducible rfl)
   simp only [Act.put, zA, zB, zC]
   refine zT (i := 8) (v := ?v105) rfl (by kernel_rfl) (fun _ _ _ h => h) (by rfl) ?y105 hHeld ?t105
   case y105 => (intro wx hSw; go_simp <;> with_reducible rfl)
   simp only [Act.put, zA, zB, zC]
   refine zT (i := 9) (v := ?v106) rfl (by kernel_rfl) (fun _ _ _ h => h) (by rfl) ?y106 hHeld ?t106
   case y106 => (intro wx hSw; have hi0 : (k : Int) < 6 := (by omega); go_simp <;> with_reducible rfl)
   simp only [Act.put, zA, zB, zC]
   refine zT (i := 10) (v := ?v107) rfl (by kernel_rfl) (fun _ _ _ h => h) (by rfl) ?y107 hHeld ?t107
   case y107 => (intro wx hSw; have hc0 : wx.cell? ⟨w.heap.size + 1, k, none⟩ = some (.int .i64 (p k)) := row_c hSw.2 k (by omega); go_simp <;> with_reducible rfl)
   simp only [Act.put, zA, zB, zC]
   refine call_at (i := 11) (by kernel_rfl) rfl (fun K hK => ?_)
   go_simp
   refine (rMul_any b s1.2 (m (i * 6 + k)) (p k) _ BF_l1.drew).mono ?_
   rintro e w2 ⟨rfl, f2, k2⟩
   generalize e2 : mulS s1.2 (m (i * 6 + k)) (p k) = r2 at f2 ⊢
   have E2 : Hid _ := e2
   clear e2
   have K2 : Kept b w w2 := Kept.trans Kl1.drew k2
   have B0_2 := B0_l1.drew.kept k2 (zG y1_BF)
   have B1_2 := B1_l1.drew.kept k2 (zG y2_BF)
   have B2_2 := B2_l1.drew.kept k2 (zG y3_BF)
   have B3_2 := B3_l1.drew.kept k2 (zG y4_BF)
   have z2 := B3_2.lies
   clear hHeld
   refine hK.out _ _ ⟨B0_2, B1_2⟩ (fun hHeld => ?_)
   clear hK K BF_l1 B0_l1 B1_l1 B2_l1 B3_l1 k2
   refine call_at (i := 12) (by kernel_rfl) rfl (fun K hK => ?_)
   go_simp
   refine (rAdd_any b r2.2 s1.1 r2.1 _ f2).mono ?_
   rintro e w3 ⟨rfl, f3, k3⟩
   generalize e3 : addS r2.2 s1.1 r2.1 = r3 at f3 ⊢
   have E3 : Hid _ := e3
   clear e3
   have K3 := Kept.trans K2 k3
   have B0_3 := B0_2.kept k3 (zG y1_BF)
   have B1_3 := B1_2.kept k3 (zG y2_BF)
   have B2_3 := B2_2.kept k3 (zG y3_BF)
   have B3_3 := B3_2.kept k3 (zG y4_BF)
   have z3 := B3_3.lies
   clear hHeld
   refine hK.out _ _ ⟨B0_3, B1_3⟩ (fun hHeld => ?_)
   clear hK K K2 f2 B0_2 B1_2 B2_2 B3_2 k3
   refine zT (i := 13) (v := ?v108) rfl (by kernel_rfl) (fun _ _ _ h => h) (by rfl) ?y108 hHeld ?t108
   case y108 => (intro wx hSw; go_simp <;> with_reducible rfl)
   simp only [Act.put, zA, zB, zC]
   refine wpAnyH_done (by kernel_rfl) ?_ _
   clear hHeld
   go_wp2_with fail
   have hs1 : Hid (zApplyS_l1 m p i (0, s0.2) (k + 1) = (r3.1, r3.2)) := by show _ = _; unfold zApplyS_l1; simp only [El1.out, E2.out, E3.out]
   rw [hJ1.out]
   intro G_ hG_
   exact hG_ (r3.1, r3.2) _ _ _ _ _ _ _ _ _ _ _ _ _ _ _ _ _ _ _ _ _ _ _ _ _ _ _ _ _ _ _ _ _ _ _ _ _ _ _ _ _ _ hs1 rfl K3 f3 B0_3 B1_3 B2_3 B3_3
  ·intro a Wl1 hI R
   rw [hJ1.out] at hI
   refine hI _ ?_
   clear hI hJ1
   intro r4 t1_1 t1_2 t1_4 t1_7 t1_13 t1_14 t1_15 t1_16 t1_17 t1_18 t1_19 t1_20 t1_21 t1_22 t1_23 t1_24 t1_25 t1_26 t1_27 t1_28 t1_29 t1_30 t1_31 t1_32 t1_33 t1_34 t1_35 t1_36 t1_37 t1_38 t1_39 t1_40 t1_41 t1_42 t1_43 t1_44 t1_45 t1_46 t1_47 t1_48 t1_49 t1_50 E4 ea Kl1 BF_l1 B0_l1 B1_l1 B2_l1 B3_l1
   subst ea
   have zl1_BF := BF_l1.lies
   have zl1_B0 := B0_l1.lies
   have zl1_B1 := B1_l1.lies
   have zl1_B2 := B2_l1.lies
   have zl1_B3 := B3_l1.lies
   have c6_B3_0 : Wl1.cell? ⟨w.heap.size + 1 + 1 + 1, i, none⟩ = some (.int .i64 (s0.1 i)) := row_c B3_l1 i (by omega)
   have g6_B3_1 := row_f B3_l1 i (by omega)
   have i6_2 : (i : Int) < 6 := by omega
   go_wp2_with fail
   clear c6_B3_0 g6_B3_1 i6_2
   have hs0 : Hid (zApplyS_l0 m p n ((fun _ => 0), bad) (i + 1) = ((updF s0.1 i r4.1), r4.2)) := by show _ = _; unfold zApplyS_l0; simp only [El0.out, E4.out]
   rw [hJ0.out]
   intro G_ hG_
   exact hG_ ((updF s0.1 i r4.1), r4.2) _ _ _ _ _ _ _ _ _ _ _ _ _ _ _ _ _ _ _ _ _ _ _ _ _ _ _ _ _ _ _ _ _ _ _ _ _ _ _ _ _ _ _ _ hs0 rfl (Kl1.new _ _ (by omega) _) (BF_l1.new (w.heap.size + 1 + 1 + 1) i (zL y4_BF) (.int .i64 r4.1)) (B0_l1.new (w.heap.size + 1 + 1 + 1) i (zL y4_B0) (.int .i64 r4.1)) (B1_l1.new (w.heap.size + 1 + 1 + 1) i (zL y4_B1) (.int .i64 r4.1)) (B2_l1.new (w.heap.size + 1 + 1 + 1) i (zL y4_B2) (.int .i64 r4.1)) (row_put B3_l1 i (by omega) r4.1)
 ·intro a Wl0 hI R
  rw [hJ0.out] at hI
  refine hI _ ?_
  clear hI hJ0
  intro r2 t0_1 t0_2 t0_4 t0_7 t0_11 t0_12 t0_13 t0_14 t0_15 t0_16 t0_17 t0_18 t0_19 t0_20 t0_21 t0_22 t0_23 t0_24 t0_25 t0_26 t0_27 t0_28 t0_29 t0_30 t0_31 t0_32 t0_33 t0_34 t0_35 t0_36 t0_37 t0_38 t0_39 t0_40 t0_41 t0_42 t0_43 t0_44 t0_45 t0_46 t0_47 t0_48 t0_49 t0_50 E2 ea Kl0 BF_l0 B0_l0 B1_l0 B2_l0 B3_l0
  subst ea
  have zl0_BF := BF_l0.lies
  have zl0_B0 := B0_l0.lies
  have zl0_B1 := B1_l0.lies
  have zl0_B2 := B2_l0.lies
  have zl0_B3 := B3_l0.lies
  rcases Bool.eq_false_or_eq_true r2.2 with hc1 | hc1
  ·have Hhc1 : Hid (r2.2 = true) := hc1
   have c4_BF := BF_l0.cell
   go_wp2_with (refine store_stop rfl (by kernel_rfl) ?_)
   clear c4_BF
   refine Stop.mk (store_row (l' := row 6 (fun _ => 0)) rfl rfl rfl rfl B2_l0 (by simp only [row_len]) (by rw [row_len]; kernel_rfl) (row_one _ _) ?_)
   intro w3 B2_3 o3
   have K3 : Kept b w w3 := Kept.off Kl0 o3 (by omega)
   have BF_3 := BF_l0.off o3 (zL y3_BF)
   have B0_3 := B0_l0.off o3 (zL y3_B0)
   have B1_3 := B1_l0.off o3 (zL y3_B1)
   have B3_3 := B3_l0.off o3 (zG y4_B2)
   have z3_B2 := B2_3.lies
   have z3_BF := BF_3.lies
   have z3_B0 := B0_3.lies
   have z3_B1 := B1_3.lies
   have z3_B3 := B3_3.lies
   clear B2_l0 BF_l0 B0_l0 B1_l0 B3_l0 o3
   go_wp2_with (with_reducible refine post_stop ?_)
   refine Stop.mk ?_
   refine bodyPost_ret (v := .agg (row 6 (fun _ => 0)).toArray) (results_arr Tryz.results57 B2_3 rfl (by kernel_rfl) (by rw [row_len]; kernel_rfl)) rfl ?_
   have hs : zApplyS bad m p n = ((fun _ => 0), r2.2) := by unfold zApplyS; simp only [E2.out]; rw [if_pos Hhc1.out]
   rw [hs]
   exact ⟨rfl, BF_3, K3⟩
  ·have Hhc1 : Hid (r2.2 = false) := hc1
   have c4_BF := BF_l0.cell
   go_wp2_with (first | (refine row_load rfl rfl rfl B3_l0 (by kernel_rfl) (by rw [row_len]; kernel_rfl) ?_) | (refine store_stop rfl (by kernel_rfl) ?_))
   clear c4_BF
   refine Stop.mk (store_row (l' := row 6 r2.1) rfl rfl rfl rfl B2_l0 (by simp only [row_len]) (by rw [row_len]; kernel_rfl) (row_one _ _) ?_)
   intro w3 B2_3 o3
   have K3 : Kept b w w3 := Kept.off Kl0 o3 (by omega)
   have BF_3 := BF_l0.off o3 (zL y3_BF)
   have B0_3 := B0_l0.off o3 (zL y3_B0)
   have B1_3 := B1_l0.off o3 (zL y3_B1)
   have B3_3 := B3_l0.off o3 (zG y4_B2)
   have z3_B2 := B2_3.lies
   have z3_BF := BF_3.lies
   have z3_B0 := B0_3.lies
   have z3_B1 := B1_3.lies
   have z3_B3 := B3_3.lies
   clear B2_l0 BF_l0 B0_l0 B1_l0 B3_l0 o3
   go_wp2_with (with_reducible refine post_stop ?_)
   refine Stop.mk ?_
   refine bodyPost_ret (v := .agg (row 6 r2.1).toArray) (results_arr Tryz.results57 B2_3 rfl (by kernel_rfl) (by rw [row_len]; kernel_rfl)) rfl ?_
   have hs : zApplyS bad m p n = (r2.1, r2.2) := by unfold zApplyS; simp only [E2.out]; rw [if_neg (by rw [Hhc1.out]; decide)]
   rw [hs]
   exact ⟨rfl, BF_3, K3⟩
end Go.Proofs.YtpjobkbefgehjaaGreat
namespace Go.Proofs.YtpjobkbefgehjaaGreat
open Go.RowKit

theorem zRoot6_any (b : Nat) (bad : Bool) (m : Nat → Int) (w : World) (hw : Fl b bad w) :
  Calls Tryz.prog 54 #[.pointer (some ⟨b, 0, none⟩), .agg (row 36 m).toArray, .int .i64 6] w fun e w' => e = .returned (.agg (row 36 (zRoot6 bad m).1).toArray) ∧ Fl b (zRoot6 bad m).2 w' ∧ Kept b w w' := by
 cases bad
 ·rw [zRoot6_good]
  exact zRoot_any b false m 6 w hw rfl (by omega) (by omega)
 ·exact zRootN_any b true m 6 w hw (size_bad 6)
theorem zSolve6_any (b : Nat) (bad : Bool) (l : Nat → Int) (p : Nat → Int) (w : World) (hw : Fl b bad w) :
  Calls Tryz.prog 55 #[.pointer (some ⟨b, 0, none⟩), .agg (row 36 l).toArray, .agg (row 6 p).toArray, .int .i64 6] w fun e w' => e = .returned (.agg (row 6 (zSolve6 bad l p).1).toArray) ∧ Fl b (zSolve6 bad l p).2 w' ∧ Kept b w w' := by
 cases bad
 ·rw [zSolve6_good]
  exact zSolve_any b false l p 6 w hw rfl (by omega) (by omega)
 ·exact zSolveN_any b true l p 6 w hw (size_bad 6)
theorem zApply6_any (b : Nat) (bad : Bool) (m : Nat → Int) (p : Nat → Int) (w : World) (hw : Fl b bad w) :
  Calls Tryz.prog 57 #[.pointer (some ⟨b, 0, none⟩), .agg (row 36 m).toArray, .agg (row 6 p).toArray, .int .i64 6] w fun e w' => e = .returned (.agg (row 6 (zApply6 bad m p).1).toArray) ∧ Fl b (zApply6 bad m p).2 w' ∧ Kept b w w' := by
 cases bad
 ·rw [zApply6_good]
  exact zApply_any b false m p 6 w hw rfl (by omega) (by omega)
 ·exact zApplyN_any b true m p 6 w hw (size_bad 6)
end Go.Proofs.YtpjobkbefgehjaaGreat
