/- A part. -/
import Derived.Test.YtpjobkbefgehjaaGreatJS
import Derived.Test.YtpjobkbefgehjaaGreatJT
import Derived.Handy
import Derived.Deep.RegionHeld3
namespace Go.Proofs.YtpjobkbefgehjaaGreat
open Go.RowKit
set_option maxRecDepth 100000
set_option maxHeartbeats 20000000
theorem zsize_any (b : Nat) (bad : Bool) (n : Int) (w : World) (hw : Fl b bad w) :
  Calls Tryz.prog 105 #[.pointer (some ⟨b, 0, none⟩), .int .i64 n] w fun e w' => e = .returned (.bool ((zsizeS bad n).1)) ∧ Fl b (zsizeS bad n).2 w' ∧ Kept b w w' := by
 have hl := hw.lies
 go_enter Tryz.func105, Tryz.ntmps105
 by_cases hc1 : n < 1
 ·have Hhc1 : Hid (n < 1) := hc1
  go_wp2_with fail
  refine (rFail_any b bad  _ hw).mono ?_
  rintro e w1 ⟨rfl, f1, k1⟩
  have K1 : Kept b w w1 := Kept.trans (Kept.refl b w) k1
  have z1 := K1.size
  clear k1
  have c2_BF := f1.cell
  go_wp2
  clear c2_BF
  go_ret
  have hs : zsizeS bad n = (false, true) := by unfold zsizeS; rw [if_pos (by have := Hhc1.out; omega)]
  rw [hs]
  exact ⟨rfl, f1, K1⟩
 ·have Hhc1 : Hid (¬ n < 1) := hc1
  by_cases hc2 : n > 6
  ·have Hhc2 : Hid (n > 6) := hc2
   go_wp2_with fail
   refine (rFail_any b bad  _ hw).mono ?_
   rintro e w1 ⟨rfl, f1, k1⟩
   have K1 : Kept b w w1 := Kept.trans (Kept.refl b w) k1
   have z1 := K1.size
   clear k1
   have c2_BF := f1.cell
   go_wp2
   clear c2_BF
   go_ret
   have hs : zsizeS bad n = (false, true) := by unfold zsizeS; rw [if_neg (by have := Hhc1.out; omega)]; rw [if_pos (by have := Hhc2.out; omega)]
   rw [hs]
   exact ⟨rfl, f1, K1⟩
  ·have Hhc2 : Hid (¬ n > 6) := hc2
   have c1_BF := hw.cell
   go_wp2
   clear c1_BF
   go_ret
   have hs : zsizeS bad n = (!bad, bad) := by unfold zsizeS; rw [if_neg (by have := Hhc1.out; omega)]; rw [if_neg (by have := Hhc2.out; omega)]
   rw [hs]
   exact ⟨rfl, hw, (Kept.refl b w)⟩
end Go.Proofs.YtpjobkbefgehjaaGreat
namespace Go.Proofs.YtpjobkbefgehjaaGreat
open Go.RowKit
theorem zRootN_any (b : Nat) (bad : Bool) (m : Nat → Int) (n : Int) (w : World) (hw : Fl b bad w) (ho : Hid (zsizeS bad n = (false, true))) :
  Calls Tryz.prog 54 #[.pointer (some ⟨b, 0, none⟩), .agg (row 36 m).toArray, .int .i64 n] w fun e w' => e = .returned (.agg (row 36 ((zRootNS bad m n).1)).toArray) ∧ Fl b (zRootNS bad m n).2 w' ∧ Kept b w w' := by
 have hl := hw.lies
 go_enter Tryz.func54, Tryz.ntmps54
 have y1_BF := hw.lies
 have y2_BF : b < w.heap.size + 1 := (Nat.lt_succ_of_lt hw.lies)
 have y2_B0 : w.heap.size < w.heap.size + 1 := by omega
 have y3_BF : b < w.heap.size + 1 + 1 := (Nat.lt_succ_of_lt (Nat.lt_succ_of_lt hw.lies))
 have y3_B0 : w.heap.size < w.heap.size + 1 + 1 := by omega
 have y3_B1 : w.heap.size + 1 < w.heap.size + 1 + 1 := by omega
 go_wp2_with (refine store_stop rfl (by kernel_rfl) ?_)
 refine Stop.mk (store_row (l' := row 36 (fun _ => 0)) rfl rfl rfl rfl (Arr_at _ _ (row 36 (fun _ => 0)) _ (by simp)) (by simp only [row_len]) (by rw [row_len]; kernel_rfl) (row_one _ _) ?_)
 intro w1 B2_1 o1
 have K1 : Kept b w w1 := Kept.off ((((Kept.refl b w).al _).al _).al _) o1 (by omega)
 have BF_1 := (((hw.alloc _).alloc _).alloc _).off o1 (zL y3_BF)
 have B0_1 := (((Arr_at _ w.heap.size (row 36 m) _ (by simp)).alloc _).alloc _).off o1 (zL y3_B0)
 have B1_1 := ((Arr_at _ (w.heap.size + 1) (row 36 (fun _ => 0)) _ (by simp)).alloc _).off o1 (zL y3_B1)
 have z1_B2 := B2_1.lies
 have z1_BF := BF_1.lies
 have z1_B0 := B0_1.lies
 have z1_B1 := B1_1.lies
 clear o1
 go_wp2_with fail
 refine (zsize_any b bad n _ BF_1).mono ?_
 rintro e w2 ⟨rfl, f2, k2⟩
 rw [ho.out] at f2 ⊢
 dsimp only at f2 ⊢
 have K2 := Kept.trans K1 k2
 have B0_2 := B0_1.kept k2 (zG y1_BF)
 have B1_2 := B1_1.kept k2 (zG y2_BF)
 have B2_2 := B2_1.kept k2 (zG y3_BF)
 have z2 := B2_2.lies
 clear K1 BF_1 B0_1 B1_1 B2_1 k2
 go_wp2_with (first | (refine row_load rfl rfl rfl B2_2 (by kernel_rfl) (by rw [row_len]; kernel_rfl) ?_) | (refine store_stop rfl (by kernel_rfl) ?_))
 refine Stop.mk (store_row (l' := row 36 (fun _ => 0)) rfl rfl rfl rfl B1_2 (by simp only [row_len]) (by rw [row_len]; kernel_rfl) (row_one _ _) ?_)
 intro w3 B1_3 o3
 have K3 : Kept b w w3 := Kept.off K2 o3 (by omega)
 have BF_3 := f2.off o3 (zL y2_BF)
 have B0_3 := B0_2.off o3 (zL y2_B0)
 have B2_3 := B2_2.off o3 (zG y3_B1)
 have z3_B1 := B1_3.lies
 have z3_BF := BF_3.lies
 have z3_B0 := B0_3.lies
 have z3_B2 := B2_3.lies
 clear K2 B1_2 f2 B0_2 B2_2 o3
 go_wp2_with (with_reducible refine post_stop ?_)
 refine Stop.mk ?_
 refine bodyPost_ret (v := .agg (row 36 (fun _ => 0)).toArray) (results_arr Tryz.results54 B1_3 rfl (by kernel_rfl) (by rw [row_len]; kernel_rfl)) rfl ?_
 have hs : zRootNS bad m n = ((fun _ => 0), true) := rfl
 rw [hs]
 exact ⟨rfl, BF_3, K3⟩
theorem zSolveN_any (b : Nat) (bad : Bool) (l : Nat → Int) (p : Nat → Int) (n : Int) (w : World) (hw : Fl b bad w) (ho : Hid (zsizeS bad n = (false, true))) :
  Calls Tryz.prog 55 #[.pointer (some ⟨b, 0, none⟩), .agg (row 36 l).toArray, .agg (row 6 p).toArray, .int .i64 n] w fun e w' => e = .returned (.agg (row 6 ((zSolveNS bad l p n).1)).toArray) ∧ Fl b (zSolveNS bad l p n).2 w' ∧ Kept b w w' := by
 have hl := hw.lies
 go_enter Tryz.func55, Tryz.ntmps55
 have y1_BF := hw.lies
 have y2_BF : b < w.heap.size + 1 := (Nat.lt_succ_of_lt hw.lies)
 have y2_B0 : w.heap.size < w.heap.size + 1 := by omega
 have y3_BF : b < w.heap.size + 1 + 1 := (Nat.lt_succ_of_lt (Nat.lt_succ_of_lt hw.lies))
 have y3_B0 : w.heap.size < w.heap.size + 1 + 1 := by omega
 have y3_B1 : w.heap.size + 1 < w.heap.size + 1 + 1 := by omega
 have y4_BF : b < w.heap.size + 1 + 1 + 1 := (Nat.lt_succ_of_lt (Nat.lt_succ_of_lt (Nat.lt_succ_of_lt hw.lies)))
 have y4_B0 : w.heap.size < w.heap.size + 1 + 1 + 1 := by omega
 have y4_B1 : w.heap.size + 1 < w.heap.size + 1 + 1 + 1 := by omega
 have y4_B2 : w.heap.size + 1 + 1 < w.heap.size + 1 + 1 + 1 := by omega
 go_wp2_with fail
 refine (zsize_any b bad n _ ((((hw.alloc _).alloc _).alloc _).alloc _)).mono ?_
 rintro e w1 ⟨rfl, f1, k1⟩
 rw [ho.out] at f1 ⊢
 dsimp only at f1 ⊢
 have K1 : Kept b w w1 := Kept.trans (((((Kept.refl b w).al _).al _).al _).al _) k1
 have B0_1 := ((((Arr_at _ w.heap.size (row 36 l) _ (by simp)).alloc _).alloc _).alloc _).kept k1 (zG y1_BF)
 have B1_1 := (((Arr_at _ (w.heap.size + 1) (row 6 p) _ (by simp)).alloc _).alloc _).kept k1 (zG y2_BF)
 have B2_1 := ((Arr_at _ (w.heap.size + 1 + 1) [.int .i64 0, .int .i64 0, .int .i64 0, .int .i64 0, .int .i64 0, .int .i64 0] _ (by simp)).alloc _).kept k1 (zG y3_BF)
 have B3_1 := (Arr_at _ (w.heap.size + 1 + 1 + 1) [.int .i64 0, .int .i64 0, .int .i64 0, .int .i64 0, .int .i64 0, .int .i64 0] _ (by simp)).kept k1 (zG y4_BF)
 have z1 := B3_1.lies
 clear k1
 have c2_B2_0 : w1.cell? ⟨w.heap.size + 1 + 1, 0, none⟩ = some (.int .i64 0) := B2_1.c 0 (zD rfl)
 have c2_B2_1 : w1.cell? ⟨w.heap.size + 1 + 1, 1, none⟩ = some (.int .i64 0) := B2_1.c 1 (zD rfl)
 have c2_B2_2 : w1.cell? ⟨w.heap.size + 1 + 1, 2, none⟩ = some (.int .i64 0) := B2_1.c 2 (zD rfl)
 have c2_B2_3 : w1.cell? ⟨w.heap.size + 1 + 1, 3, none⟩ = some (.int .i64 0) := B2_1.c 3 (zD rfl)
 have c2_B2_4 : w1.cell? ⟨w.heap.size + 1 + 1, 4, none⟩ = some (.int .i64 0) := B2_1.c 4 (zD rfl)
 have c2_B2_5 : w1.cell? ⟨w.heap.size + 1 + 1, 5, none⟩ = some (.int .i64 0) := B2_1.c 5 (zD rfl)
 have c2_B3_0 : w1.cell? ⟨w.heap.size + 1 + 1 + 1, 0, none⟩ = some (.int .i64 0) := B3_1.c 0 (zD rfl)
 have c2_B3_1 : w1.cell? ⟨w.heap.size + 1 + 1 + 1, 1, none⟩ = some (.int .i64 0) := B3_1.c 1 (zD rfl)
 have c2_B3_2 : w1.cell? ⟨w.heap.size + 1 + 1 + 1, 2, none⟩ = some (.int .i64 0) := B3_1.c 2 (zD rfl)
 have c2_B3_3 : w1.cell? ⟨w.heap.size + 1 + 1 + 1, 3, none⟩ = some (.int .i64 0) := B3_1.c 3 (zD rfl)
 have c2_B3_4 : w1.cell? ⟨w.heap.size + 1 + 1 + 1, 4, none⟩ = some (.int .i64 0) := B3_1.c 4 (zD rfl)
 have c2_B3_5 : w1.cell? ⟨w.heap.size + 1 + 1 + 1, 5, none⟩ = some (.int .i64 0) := B3_1.c 5 (zD rfl)
 have g2_B2_0 := B2_1.f 0 (zD rfl)
 have g2_B2_1 := B2_1.f 1 (zD rfl)
 have g2_B2_2 := B2_1.f 2 (zD rfl)
 have g2_B2_3 := B2_1.f 3 (zD rfl)
 have g2_B2_4 := B2_1.f 4 (zD rfl)
 have g2_B2_5 := B2_1.f 5 (zD rfl)
 go_wp2_with (with_reducible refine post_stop ?_)
 refine Stop.mk ?_
 clear c2_B2_0 c2_B2_1 c2_B2_2 c2_B2_3 c2_B2_4 c2_B2_5 c2_B3_0 c2_B3_1 c2_B3_2 c2_B3_3 c2_B3_4 c2_B3_5 g2_B2_0 g2_B2_1 g2_B2_2 g2_B2_3 g2_B2_4 g2_B2_5
 refine bodyPost_ret (v := .agg #[.int .i64 0, .int .i64 0, .int .i64 0, .int .i64 0, .int .i64 0, .int .i64 0]) (results_arr Tryz.results55 ((((((B2_1.put 0 (zD rfl) (.int .i64 0) [.int .i64 0, .int .i64 0, .int .i64 0, .int .i64 0, .int .i64 0, .int .i64 0] rfl).put 1 (zD rfl) (.int .i64 0) [.int .i64 0, .int .i64 0, .int .i64 0, .int .i64 0, .int .i64 0, .int .i64 0] rfl).put 2 (zD rfl) (.int .i64 0) [.int .i64 0, .int .i64 0, .int .i64 0, .int .i64 0, .int .i64 0, .int .i64 0] rfl).put 3 (zD rfl) (.int .i64 0) [.int .i64 0, .int .i64 0, .int .i64 0, .int .i64 0, .int .i64 0, .int .i64 0] rfl).put 4 (zD rfl) (.int .i64 0) [.int .i64 0, .int .i64 0, .int .i64 0, .int .i64 0, .int .i64 0, .int .i64 0] rfl).put 5 (zD rfl) (.int .i64 0) [.int .i64 0, .int .i64 0, .int .i64 0, .int .i64 0, .int .i64 0, .int .i64 0] rfl) rfl (by kernel_rfl) (by kernel_rfl)) rfl ?_
 have hs : zSolveNS bad l p n = ((fun _ => 0), true) := rfl
 rw [hs]
 exact ⟨rfl, ((((((f1.new (w.heap.size + 1 + 1) 0 (zL y3_BF) (.int .i64 0)).new (w.heap.size + 1 + 1) 1 (zL y3_BF) (.int .i64 0)).new (w.heap.size + 1 + 1) 2 (zL y3_BF) (.int .i64 0)).new (w.heap.size + 1 + 1) 3 (zL y3_BF) (.int .i64 0)).new (w.heap.size + 1 + 1) 4 (zL y3_BF) (.int .i64 0)).new (w.heap.size + 1 + 1) 5 (zL y3_BF) (.int .i64 0)), ((((((K1.new _ _ (by omega) _).new _ _ (by omega) _).new _ _ (by omega) _).new _ _ (by omega) _).new _ _ (by omega) _).new _ _ (by omega) _)⟩
theorem zApplyN_any (b : Nat) (bad : Bool) (m : Nat → Int) (p : Nat → Int) (n : Int) (w : World) (hw : Fl b bad w) (ho : Hid (zsizeS bad n = (false, true))) :
  Calls Tryz.prog 57 #[.pointer (some ⟨b, 0, none⟩), .agg (row 36 m).toArray, .agg (row 6 p).toArray, .int .i64 n] w fun e w' => e = .returned (.agg (row 6 ((zApplyNS bad m p n).1)).toArray) ∧ Fl b (zApplyNS bad m p n).2 w' ∧ Kept b w w' := by
 have hl := hw.lies
 go_enter Tryz.func57, Tryz.ntmps57
 have y1_BF := hw.lies
 have y2_BF : b < w.heap.size + 1 := (Nat.lt_succ_of_lt hw.lies)
 have y2_B0 : w.heap.size < w.heap.size + 1 := by omega
 have y3_BF : b < w.heap.size + 1 + 1 := (Nat.lt_succ_of_lt (Nat.lt_succ_of_lt hw.lies))
 have y3_B0 : w.heap.size < w.heap.size + 1 + 1 := by omega
 have y3_B1 : w.heap.size + 1 < w.heap.size + 1 + 1 := by omega
 have y4_BF : b < w.heap.size + 1 + 1 + 1 := (Nat.lt_succ_of_lt (Nat.lt_succ_of_lt (Nat.lt_succ_of_lt hw.lies)))
 have y4_B0 : w.heap.size < w.heap.size + 1 + 1 + 1 := by omega
 have y4_B1 : w.heap.size + 1 < w.heap.size + 1 + 1 + 1 := by omega
 have y4_B2 : w.heap.size + 1 + 1 < w.heap.size + 1 + 1 + 1 := by omega
 go_wp2_with fail
 refine (zsize_any b bad n _ ((((hw.alloc _).alloc _).alloc _).alloc _)).mono ?_
 rintro e w1 ⟨rfl, f1, k1⟩
 rw [ho.out] at f1 ⊢
 dsimp only at f1 ⊢
 have K1 : Kept b w w1 := Kept.trans (((((Kept.refl b w).al _).al _).al _).al _) k1
 have B0_1 := ((((Arr_at _ w.heap.size (row 36 m) _ (by simp)).alloc _).alloc _).alloc _).kept k1 (zG y1_BF)
 have B1_1 := (((Arr_at _ (w.heap.size + 1) (row 6 p) _ (by simp)).alloc _).alloc _).kept k1 (zG y2_BF)
 have B2_1 := ((Arr_at _ (w.heap.size + 1 + 1) [.int .i64 0, .int .i64 0, .int .i64 0, .int .i64 0, .int .i64 0, .int .i64 0] _ (by simp)).alloc _).kept k1 (zG y3_BF)
 have B3_1 := (Arr_at _ (w.heap.size + 1 + 1 + 1) [.int .i64 0, .int .i64 0, .int .i64 0, .int .i64 0, .int .i64 0, .int .i64 0] _ (by simp)).kept k1 (zG y4_BF)
 have z1 := B3_1.lies
 clear k1
 have c2_B2_0 : w1.cell? ⟨w.heap.size + 1 + 1, 0, none⟩ = some (.int .i64 0) := B2_1.c 0 (zD rfl)
 have c2_B2_1 : w1.cell? ⟨w.heap.size + 1 + 1, 1, none⟩ = some (.int .i64 0) := B2_1.c 1 (zD rfl)
 have c2_B2_2 : w1.cell? ⟨w.heap.size + 1 + 1, 2, none⟩ = some (.int .i64 0) := B2_1.c 2 (zD rfl)
 have c2_B2_3 : w1.cell? ⟨w.heap.size + 1 + 1, 3, none⟩ = some (.int .i64 0) := B2_1.c 3 (zD rfl)
 have c2_B2_4 : w1.cell? ⟨w.heap.size + 1 + 1, 4, none⟩ = some (.int .i64 0) := B2_1.c 4 (zD rfl)
 have c2_B2_5 : w1.cell? ⟨w.heap.size + 1 + 1, 5, none⟩ = some (.int .i64 0) := B2_1.c 5 (zD rfl)
 have c2_B3_0 : w1.cell? ⟨w.heap.size + 1 + 1 + 1, 0, none⟩ = some (.int .i64 0) := B3_1.c 0 (zD rfl)
 have c2_B3_1 : w1.cell? ⟨w.heap.size + 1 + 1 + 1, 1, none⟩ = some (.int .i64 0) := B3_1.c 1 (zD rfl)
 have c2_B3_2 : w1.cell? ⟨w.heap.size + 1 + 1 + 1, 2, none⟩ = some (.int .i64 0) := B3_1.c 2 (zD rfl)
 have c2_B3_3 : w1.cell? ⟨w.heap.size + 1 + 1 + 1, 3, none⟩ = some (.int .i64 0) := B3_1.c 3 (zD rfl)
 have c2_B3_4 : w1.cell? ⟨w.heap.size + 1 + 1 + 1, 4, none⟩ = some (.int .i64 0) := B3_1.c 4 (zD rfl)
 have c2_B3_5 : w1.cell? ⟨w.heap.size + 1 + 1 + 1, 5, none⟩ = some (.int .i64 0) := B3_1.c 5 (zD rfl)
 have g2_B2_0 := B2_1.f 0 (zD rfl)
 have g2_B2_1 := B2_1.f 1 (zD rfl)
 have g2_B2_2 := B2_1.f 2 (zD rfl)
 have g2_B2_3 := B2_1.f 3 (zD rfl)
 have g2_B2_4 := B2_1.f 4 (zD rfl)
 have g2_B2_5 := B2_1.f 5 (zD rfl)
 go_wp2_with (with_reducible refine post_stop ?_)
 refine Stop.mk ?_
 clear c2_B2_0 c2_B2_1 c2_B2_2 c2_B2_3 c2_B2_4 c2_B2_5 c2_B3_0 c2_B3_1 c2_B3_2 c2_B3_3 c2_B3_4 c2_B3_5 g2_B2_0 g2_B2_1 g2_B2_2 g2_B2_3 g2_B2_4 g2_B2_5
 refine bodyPost_ret (v := .agg #[.int .i64 0, .int .i64 0, .int .i64 0, .int .i64 0, .int .i64 0, .int .i64 0]) (results_arr Tryz.results57 ((((((B2_1.put 0 (zD rfl) (.int .i64 0) [.int .i64 0, .int .i64 0, .int .i64 0, .int .i64 0, .int .i64 0, .int .i64 0] rfl).put 1 (zD rfl) (.int .i64 0) [.int .i64 0, .int .i64 0, .int .i64 0, .int .i64 0, .int .i64 0, .int .i64 0] rfl).put 2 (zD rfl) (.int .i64 0) [.int .i64 0, .int .i64 0, .int .i64 0, .int .i64 0, .int .i64 0, .int .i64 0] rfl).put 3 (zD rfl) (.int .i64 0) [.int .i64 0, .int .i64 0, .int .i64 0, .int .i64 0, .int .i64 0, .int .i64 0] rfl).put 4 (zD rfl) (.int .i64 0) [.int .i64 0, .int .i64 0, .int .i64 0, .int .i64 0, .int .i64 0, .int .i64 0] rfl).put 5 (zD rfl) (.int .i64 0) [.int .i64 0, .int .i64 0, .int .i64 0, .int .i64 0, .int .i64 0, .int .i64 0] rfl) rfl (by kernel_rfl) (by kernel_rfl)) rfl ?_
 have hs : zApplyNS bad m p n = ((fun _ => 0), true) := rfl
 rw [hs]
 exact ⟨rfl, ((((((f1.new (w.heap.size + 1 + 1) 0 (zL y3_BF) (.int .i64 0)).new (w.heap.size + 1 + 1) 1 (zL y3_BF) (.int .i64 0)).new (w.heap.size + 1 + 1) 2 (zL y3_BF) (.int .i64 0)).new (w.heap.size + 1 + 1) 3 (zL y3_BF) (.int .i64 0)).new (w.heap.size + 1 + 1) 4 (zL y3_BF) (.int .i64 0)).new (w.heap.size + 1 + 1) 5 (zL y3_BF) (.int .i64 0)), ((((((K1.new _ _ (by omega) _).new _ _ (by omega) _).new _ _ (by omega) _).new _ _ (by omega) _).new _ _ (by omega) _).new _ _ (by omega) _)⟩
end Go.Proofs.YtpjobkbefgehjaaGreat
namespace Go.Proofs.YtpjobkbefgehjaaGreat
open Go.RowKit
theorem zRoot_any (b : Nat) (bad : Bool) (m : Nat → Int) (n : Nat) (w : World) (hw : Fl b bad w) (hb : Hid (bad = false)) (h1 : 1 ≤ n) (h6 : n ≤ 6) :
  Calls Tryz.prog 54 #[.pointer (some ⟨b, 0, none⟩), .agg (row 36 m).toArray, .int .i64 (n : Int)] w fun e w' => e = .returned (.agg (row 36 ((zRootS bad m n).1)).toArray) ∧ Fl b (zRootS bad m n).2 w' ∧ Kept b w w' := by
 have hl := hw.lies
 go_enter Tryz.func54, Tryz.ntmps54
 have y1_BF := hw.lies
 have y2_BF : b < w.heap.size + 1 := (Nat.lt_succ_of_lt hw.lies)
 have y2_B0 : w.heap.size < w.heap.size + 1 := by omega
 have y3_BF : b < w.heap.size + 1 + 1 := (Nat.lt_succ_of_lt (Nat.lt_succ_of_lt hw.lies))
 have y3_B0 : w.heap.size < w.heap.size + 1 + 1 := by omega
 have y3_B1 : w.heap.size + 1 < w.heap.size + 1 + 1 := by omega
 go_wp2_with (refine store_stop rfl (by kernel_rfl) ?_)
 refine Stop.mk (store_row (l' := row 36 (fun _ => 0)) rfl rfl rfl rfl (Arr_at _ _ (row 36 (fun _ => 0)) _ (by simp)) (by simp only [row_len]) (by rw [row_len]; kernel_rfl) (row_one _ _) ?_)
 intro w1 B2_1 o1
 have K1 : Kept b w w1 := Kept.off ((((Kept.refl b w).al _).al _).al _) o1 (by omega)
 have BF_1 := (((hw.alloc _).alloc _).alloc _).off o1 (zL y3_BF)
 have B0_1 := (((Arr_at _ w.heap.size (row 36 m) _ (by simp)).alloc _).alloc _).off o1 (zL y3_B0)
 have B1_1 := ((Arr_at _ (w.heap.size + 1) (row 36 (fun _ => 0)) _ (by simp)).alloc _).off o1 (zL y3_B1)
 have z1_B2 := B2_1.lies
 have z1_BF := BF_1.lies
 have z1_B0 := B0_1.lies
 have z1_B1 := B1_1.lies
 clear o1
 go_wp2_with fail
 refine (zsize_any b bad (n : Int) _ BF_1).mono ?_
 rintro e w2 ⟨rfl, f2, k2⟩
 rw [(size_in hb h1 h6)] at f2 ⊢
 dsimp only at f2 ⊢
 have K2 := Kept.trans K1 k2
 have B0_2 := B0_1.kept k2 (zG y1_BF)
 have B1_2 := B1_1.kept k2 (zG y2_BF)
 have B2_2 := B2_1.kept k2 (zG y3_BF)
 have z2 := B2_2.lies
 clear K1 BF_1 B0_1 B1_1 B2_1 k2
 go_wp2_with fail
 obtain ⟨J0, hJ0⟩ : ∃ J : Nat → Act → World → Prop, Hid (J = fun i a Wl0 => ∀ G_ : Prop, (∀ (s0 : (Nat → Int) × Bool) (m1 m3 m5 m9 m10 m11 m12 m13 m14 m15 m16 m17 m18 m19 m20 m21 m22 m23 m24 m25 m26 m27 m28 m29 m30 m31 m32 m33 m34 m35 m36 m37 m38 m39 m40 m41 m42 m43 m44 m45 m46 m47 m48 m49 m50 m51 m52 m53 m54 m55 m56 m57 m58 m59 m60 m61 m62 m63 m64 m65 m66 m67 m68 m69 m70 m71 m72 m73 m74 m75 m76 m77 m78 m79 m80 m81 m82 m83 m84 m85 m86 : Value), Hid (zRootS_l0 m ((fun _ => 0), bad) i = s0) → a = { tmps := #[.pointer (some ⟨b, 0, none⟩), m1, .int .i64 (n : Int), m3, .pointer (some ⟨w.heap.size, 0, none⟩), m5, .pointer (some ⟨w.heap.size + 1, 0, none⟩), .pointer (some ⟨w.heap.size + 1 + 1, 0, none⟩), .int .i64 (i : Int), m9, m10, m11, m12, m13, m14, m15, m16, m17, m18, m19, m20, m21, m22, m23, m24, m25, m26, m27, m28, m29, m30, m31, m32, m33, m34, m35, m36, m37, m38, m39, m40, m41, m42, m43, m44, m45, m46, m47, m48, m49, m50, m51, m52, m53, m54, m55, m56, m57, m58, m59, m60, m61, m62, m63, m64, m65, m66, m67, m68, m69, m70, m71, m72, m73, m74, m75, m76, m77, m78, m79, m80, m81, m82, m83, m84, m85, m86], defers := [] } → Kept b w Wl0 → Fl b s0.2 Wl0 → Arr w.heap.size (row 36 m) Wl0 → Arr (w.heap.size + 1) (row 36 (fun _ => 0)) Wl0 → Arr (w.heap.size + 1 + 1) (row 36 s0.1) Wl0 → G_) → G_) := ⟨_, rfl⟩
 refine rounds_up J0 n ?_ ?_ ?_
 ·rw [hJ0.out]
  intro G_ hG_
  exact hG_ ((fun _ => 0), bad) _ _ _ _ _ _ _ _ _ _ _ _ _ _ _ _ _ _ _ _ _ _ _ _ _ _ _ _ _ _ _ _ _ _ _ _ _ _ _ _ _ _ _ _ _ _ _ _ _ _ _ _ _ _ _ _ _ _ _ _ _ _ _ _ _ _ _ _ _ _ _ _ _ _ _ _ _ _ _ _ _ rfl rfl K2 f2 B0_2 B1_2 B2_2
 ·intro i a Wl0 hi hI R hR
  rw [hJ0.out] at hI
  refine hI _ ?_
  clear hI
  intro s0 m1 m3 m5 m9 m10 m11 m12 m13 m14 m15 m16 m17 m18 m19 m20 m21 m22 m23 m24 m25 m26 m27 m28 m29 m30 m31 m32 m33 m34 m35 m36 m37 m38 m39 m40 m41 m42 m43 m44 m45 m46 m47 m48 m49 m50 m51 m52 m53 m54 m55 m56 m57 m58 m59 m60 m61 m62 m63 m64 m65 m66 m67 m68 m69 m70 m71 m72 m73 m74 m75 m76 m77 m78 m79 m80 m81 m82 m83 m84 m85 m86 El0 ea Kl0 BF_l0 B0_l0 B1_l0 B2_l0
  subst ea
  have zl0_BF := BF_l0.lies
  have zl0_B0 := B0_l0.lies
  have zl0_B1 := B1_l0.lies
  have zl0_B2 := B2_l0.lies
  go_wp2_with fail
  obtain ⟨J1, hJ1⟩ : ∃ J : Nat → Act → World → Prop, Hid (J = fun j a Wl1 => ∀ G_ : Prop, (∀ (s1 : (Nat → Int) × Bool) (n1 n3 n5 n10 n11 n12 n13 n14 n15 n16 n17 n18 n19 n20 n21 n22 n23 n24 n25 n26 n27 n28 n29 n30 n31 n32 n33 n34 n35 n36 n37 n38 n39 n40 n41 n42 n43 n44 n45 n46 n47 n48 n49 n50 n51 n52 n53 n54 n55 n56 n57 n58 n59 n60 n61 n62 n63 n64 n65 n66 n67 n68 n69 n70 n71 n72 n73 n74 n75 n76 n77 n78 n79 n80 n81 n82 n83 n84 n85 n86 : Value), Hid (zRootS_l1 m i (s0.1, s0.2) j = s1) → a = { tmps := #[.pointer (some ⟨b, 0, none⟩), n1, .int .i64 (n : Int), n3, .pointer (some ⟨w.heap.size, 0, none⟩), n5, .pointer (some ⟨w.heap.size + 1, 0, none⟩), .pointer (some ⟨w.heap.size + 1 + 1, 0, none⟩), .int .i64 (i : Int), .int .i64 (j : Int), n10, n11, n12, n13, n14, n15, n16, n17, n18, n19, n20, n21, n22, n23, n24, n25, n26, n27, n28, n29, n30, n31, n32, n33, n34, n35, n36, n37, n38, n39, n40, n41, n42, n43, n44, n45, n46, n47, n48, n49, n50, n51, n52, n53, n54, n55, n56, n57, n58, n59, n60, n61, n62, n63, n64, n65, n66, n67, n68, n69, n70, n71, n72, n73, n74, n75, n76, n77, n78, n79, n80, n81, n82, n83, n84, n85, n86], defers := [] } → Kept b w Wl1 → Fl b s1.2 Wl1 → Arr w.heap.size (row 36 m) Wl1 → Arr (w.heap.size + 1) (row 36 (fun _ => 0)) Wl1 → Arr (w.heap.size + 1 + 1) (row 36 s1.1) Wl1 → G_) → G_) := ⟨_, rfl⟩
  refine rounds_up J1 (i + 1) ?_ ?_ ?_
  ·rw [hJ1.out]
   intro G_ hG_
   exact hG_ (s0.1, s0.2) _ _ _ _ _ _ _ _ _ _ _ _ _ _ _ _ _ _ _ _ _ _ _ _ _ _ _ _ _ _ _ _ _ _ _ _ _ _ _ _ _ _ _ _ _ _ _ _ _ _ _ _ _ _ _ _ _ _ _ _ _ _ _ _ _ _ _ _ _ _ _ _ _ _ _ _ _ _ _ _ rfl rfl Kl0 BF_l0 B0_l0 B1_l0 B2_l0
  ·intro j a Wl1 hj hI R hR
   rw [hJ1.out] at hI
   refine hI _ ?_
   clear hI
   intro s1 n1 n3 n5 n10 n11 n12 n13 n14 n15 n16 n17 n18 n19 n20 n21 n22 n23 n24 n25 n26 n27 n28 n29 n30 n31 n32 n33 n34 n35 n36 n37 n38 n39 n40 n41 n42 n43 n44 n45 n46 n47 n48 n49 n50 n51 n52 n53 n54 n55 n56 n57 n58 n59 n60 n61 n62 n63 n64 n65 n66 n67 n68 n69 n70 n71 n72 n73 n74 n75 n76 n77 n78 n79 n80 n81 n82 n83 n84 n85 n86 El1 ea Kl1 BF_l1 B0_l1 B1_l1 B2_l1
   subst ea
   have zl1_BF := BF_l1.lies
   have zl1_B0 := B0_l1.lies
   have zl1_B1 := B1_l1.lies
   have zl1_B2 := B2_l1.lies
   have c5_B0_0 : Wl1.cell? ⟨w.heap.size, i * 6 + j, none⟩ = some (.int .i64 (m (i * 6 + j))) := row_c B0_l1 (i * 6 + j) (by omega)
   have i5_1 : (i : Int) < 6 := by omega
   have i5_2 : (j : Int) < 6 := by omega
   go_wp2_with fail
   refine (rAdd_any b s1.2 (m (i * 6 + j)) 0 _ BF_l1).mono ?_
   rintro e w3 ⟨rfl, f3, k3⟩
   generalize e3 : addS s1.2 (m (i * 6 + j)) 0 = r3 at f3 ⊢
   have E3 : Hid _ := e3
   clear e3
   have K3 : Kept b w w3 := Kept.trans Kl1 k3
   have B0_3 := B0_l1.kept k3 (zG y1_BF)
   have B1_3 := B1_l1.kept k3 (zG y2_BF)
   have B2_3 := B2_l1.kept k3 (zG y3_BF)
   have z3 := B2_3.lies
   clear c5_B0_0 i5_1 i5_2 BF_l1 B0_l1 B1_l1 B2_l1 k3
   go_wp2_with fail
   obtain ⟨J2, hJ2⟩ : ∃ J : Nat → Act → World → Prop, Hid (J = fun k a Wl2 => ∀ G_ : Prop, (∀ (s2 : Int × Bool) (j1 j3 j5 j12 j13 j14 j15 j16 j17 j18 j19 j20 j21 j22 j23 j24 j25 j26 j27 j28 j29 j30 j31 j32 j33 j34 j35 j36 j37 j38 j39 j40 j41 j42 j43 j44 j45 j46 j47 j48 j49 j50 j51 j52 j53 j54 j55 j56 j57 j58 j59 j60 j61 j62 j63 j64 j65 j66 j67 j68 j69 j70 j71 j72 j73 j74 j75 j76 j77 j78 j79 j80 j81 j82 j83 j84 j85 j86 : Value), Hid (zRootS_l2 i j s1 (r3.1, r3.2) k = s2) → a = { tmps := #[.pointer (some ⟨b, 0, none⟩), j1, .int .i64 (n : Int), j3, .pointer (some ⟨w.heap.size, 0, none⟩), j5, .pointer (some ⟨w.heap.size + 1, 0, none⟩), .pointer (some ⟨w.heap.size + 1 + 1, 0, none⟩), .int .i64 (i : Int), .int .i64 (j : Int), .int .i64 s2.1, .int .i64 (k : Int), j12, j13, j14, j15, j16, j17, j18, j19, j20, j21, j22, j23, j24, j25, j26, j27, j28, j29, j30, j31, j32, j33, j34, j35, j36, j37, j38, j39, j40, j41, j42, j43, j44, j45, j46, j47, j48, j49, j50, j51, j52, j53, j54, j55, j56, j57, j58, j59, j60, j61, j62, j63, j64, j65, j66, j67, j68, j69, j70, j71, j72, j73, j74, j75, j76, j77, j78, j79, j80, j81, j82, j83, j84, j85, j86], defers := [] } → Kept b w Wl2 → Fl b s2.2 Wl2 → Arr w.heap.size (row 36 m) Wl2 → Arr (w.heap.size + 1) (row 36 (fun _ => 0)) Wl2 → Arr (w.heap.size + 1 + 1) (row 36 s1.1) Wl2 → G_) → G_) := ⟨_, rfl⟩
   refine rounds_up J2 j ?_ ?_ ?_
   ·rw [hJ2.out]
    intro G_ hG_
    exact hG_ (r3.1, r3.2) _ _ _ _ _ _ _ _ _ _ _ _ _ _ _ _ _ _ _ _ _ _ _ _ _ _ _ _ _ _ _ _ _ _ _ _ _ _ _ _ _ _ _ _ _ _ _ _ _ _ _ _ _ _ _ _ _ _ _ _ _ _ _ _ _ _ _ _ _ _ _ _ _ _ _ _ _ _ rfl rfl K3 f3 B0_3 B1_3 B2_3
   ·intro k a Wl2 hk hI R hR
    rw [hJ2.out] at hI
    refine hI _ ?_
    clear hI
    intro s2 j1 j3 j5 j12 j13 j14 j15 j16 j17 j18 j19 j20 j21 j22 j23 j24 j25 j26 j27 j28 j29 j30 j31 j32 j33 j34 j35 j36 j37 j38 j39 j40 j41 j42 j43 j44 j45 j46 j47 j48 j49 j50 j51 j52 j53 j54 j55 j56 j57 j58 j59 j60 j61 j62 j63 j64 j65 j66 j67 j68 j69 j70 j71 j72 j73 j74 j75 j76 j77 j78 j79 j80 j81 j82 j83 j84 j85 j86 El2 ea Kl2 BF_l2 B0_l2 B1_l2 B2_l2
    subst ea
    have zl2_BF := BF_l2.lies
    have zl2_B0 := B0_l2.lies
    have zl2_B1 := B1_l2.lies
    have zl2_B2 := B2_l2.lies
    go_wp2_with fail
    refine wp_region_held_drew (S := fun w' => Arr (w.heap.size + 1 + 1) (row 36 s1.1) w') (by kernel_rfl) B2_l2.drew (fun zH => ?_)
    refine zT 0 rfl (by kernel_rfl) (fun _ _ _ => id) rfl (fun _ _ => by go_simp <;> with_reducible rfl) zH ?_
    simp only [Act.put, zA, zB, zC]
    refine zT 1 rfl (by kernel_rfl) (fun _ _ _ => id) rfl (fun _ _ => by go_simp <;> with_reducible rfl) zH ?_
    simp only [Act.put, zA, zB, zC]
    refine zT 2 rfl (by kernel_rfl) (fun _ _ _ => id) rfl (fun _ _ => by go_simp <;> with_reducible rfl) zH ?_
    simp only [Act.put, zA, zB, zC]
    refine zT 3 rfl (by kernel_rfl) (fun _ _ _ => id) rfl (fun _ _ => by go_simp <;> with_reducible rfl) zH ?_
    simp only [Act.put, zA, zB, zC]
    refine zT 4 rfl (by kernel_rfl) (fun _ _ _ => id) rfl (fun _ _ => by go_simp <;> with_reducible rfl) zH ?_
    simp only [Act.put, zA, zB, zC]
    refine zT 5 rfl (by kernel_rfl) (fun _ _ _ => id) rfl (fun _ _ => by have hi0 : (i : Int) < 6 := (by omega); go_simp <;> with_reducible rfl) zH ?_
    simp only [Act.put, zA, zB, zC]
    refine zT 6 rfl (by kernel_rfl) (fun _ _ _ => id) rfl (fun _ _ => by have hi0 : (k : Int) < 6 := (by omega); go_simp <;> with_reducible rfl) zH ?_
    simp only [Act.put, zA, zB, zC]
    refine zT 7 rfl (by kernel_rfl) (fun _ _ _ => id) rfl (fun wx hS => by have hc0 : wx.cell? ⟨w.heap.size + 1 + 1, i * 6 + k, none⟩ = some (.int .i64 (s1.1 (i * 6 + k))) := row_c hS (i * 6 + k) (by omega); go_simp <;> with_reducible rfl) zH ?_
    simp only [Act.put, zA, zB, zC]
    refine zT 8 rfl (by kernel_rfl) (fun _ _ _ => id) rfl (fun _ _ => by go_simp <;> with_reducible rfl) zH ?_
    simp only [Act.put, zA, zB, zC]
    refine zT 9 rfl (by kernel_rfl) (fun _ _ _ => id) rfl (fun _ _ => by go_simp <;> with_reducible rfl) zH ?_
    simp only [Act.put, zA, zB, zC]
    refine zT 10 rfl (by kernel_rfl) (fun _ _ _ => id) rfl (fun _ _ => by have hi0 : (j : Int) < 6 := (by omega); go_simp <;> with_reducible rfl) zH ?_
    simp only [Act.put, zA, zB, zC]
    refine zT 11 rfl (by kernel_rfl) (fun _ _ _ => id) rfl (fun _ _ => by have hi0 : (k : Int) < 6 := (by omega); go_simp <;> with_reducible rfl) zH ?_
    simp only [Act.put, zA, zB, zC]
    refine zT 12 rfl (by kernel_rfl) (fun _ _ _ => id) rfl (fun wx hS => by have hc0 : wx.cell? ⟨w.heap.size + 1 + 1, j * 6 + k, none⟩ = some (.int .i64 (s1.1 (j * 6 + k))) := row_c hS (j * 6 + k) (by omega); go_simp <;> with_reducible rfl) zH ?_
    simp only [Act.put, zA, zB, zC]
    refine zK 13 (by kernel_rfl) rfl (fun K hK => ?_)
    go_simp
    refine (rMul_any b s2.2 (s1.1 (i * 6 + k)) (s1.1 (j * 6 + k)) _ BF_l2.drew).mono ?_
    rintro e w4 ⟨rfl, f4, k4⟩
    generalize e4 : mulS s2.2 (s1.1 (i * 6 + k)) (s1.1 (j * 6 + k)) = r4 at f4 ⊢
    have E4 : Hid _ := e4
    clear e4
    have K4 : Kept b w w4 := Kept.trans Kl2.drew k4
    have B0_4 := B0_l2.drew.kept k4 (zG y1_BF)
    have B1_4 := B1_l2.drew.kept k4 (zG y2_BF)
    have B2_4 := B2_l2.drew.kept k4 (zG y3_BF)
    have z4 := B2_4.lies
    clear zH
    refine hK.out _ _ B2_4 (fun zH => ?_)
    clear hK K BF_l2 B0_l2 B1_l2 B2_l2 k4
    refine zK 14 (by kernel_rfl) rfl (fun K hK => ?_)
    go_simp
    refine (rSub_any b r4.2 s2.1 r4.1 _ f4).mono ?_
    rintro e w5 ⟨rfl, f5, k5⟩
    generalize e5 : subS r4.2 s2.1 r4.1 = r5 at f5 ⊢
    have E5 : Hid _ := e5
    clear e5
    have K5 := Kept.trans K4 k5
    have B0_5 := B0_4.kept k5 (zG y1_BF)
    have B1_5 := B1_4.kept k5 (zG y2_BF)
    have B2_5 := B2_4.kept k5 (zG y3_BF)
    have z5 := B2_5.lies
    clear zH
    refine hK.out _ _ B2_5 (fun zH => ?_)
    clear hK K K4 f4 B0_4 B1_4 B2_4 k5
    refine zT 15 rfl (by kernel_rfl) (fun _ _ _ => id) rfl (fun _ _ => by go_simp <;> with_reducible rfl) zH ?_
    simp only [Act.put, zA, zB, zC]
    refine wpAnyH_done (by kernel_rfl) ?_ _
    clear zH
    go_wp2_with fail
    have hs2 : Hid (zRootS_l2 i j s1 (r3.1, r3.2) (k + 1) = (r5.1, r5.2)) := by show _ = _; unfold zRootS_l2; simp only [El2.out, E4.out, E5.out]
    rw [hJ2.out]
    intro G_ hG_
    exact hG_ (r5.1, r5.2) _ _ _ _ _ _ _ _ _ _ _ _ _ _ _ _ _ _ _ _ _ _ _ _ _ _ _ _ _ _ _ _ _ _ _ _ _ _ _ _ _ _ _ _ _ _ _ _ _ _ _ _ _ _ _ _ _ _ _ _ _ _ _ _ _ _ _ _ _ _ _ _ _ _ _ _ _ _ hs2 rfl K5 f5 B0_5 B1_5 B2_5
   ·intro a Wl2 hI R
    rw [hJ2.out] at hI
    refine hI _ ?_
    clear hI hJ2
    intro r6 j1 j3 j5 j12 j13 j14 j15 j16 j17 j18 j19 j20 j21 j22 j23 j24 j25 j26 j27 j28 j29 j30 j31 j32 j33 j34 j35 j36 j37 j38 j39 j40 j41 j42 j43 j44 j45 j46 j47 j48 j49 j50 j51 j52 j53 j54 j55 j56 j57 j58 j59 j60 j61 j62 j63 j64 j65 j66 j67 j68 j69 j70 j71 j72 j73 j74 j75 j76 j77 j78 j79 j80 j81 j82 j83 j84 j85 j86 E6 ea Kl2 BF_l2 B0_l2 B1_l2 B2_l2
    subst ea
    have zl2_BF := BF_l2.lies
    have zl2_B0 := B0_l2.lies
    have zl2_B1 := B1_l2.lies
    have zl2_B2 := B2_l2.lies
    by_cases hc1 : (i : Int) = (j : Int)
    ·have Hhc1 : Hid ((i : Int) = (j : Int)) := hc1
     have hc1a : i ≤ j := by omega
     have hc1b : j ≤ i := by omega
     clear hc1
     by_cases hc2 : r6.1 < 1
     ·have Hhc2 : Hid (r6.1 < 1) := hc2
      go_wp2_with fail
      refine (rFail_any b r6.2  _ BF_l2).mono ?_
      rintro e w7 ⟨rfl, f7, k7⟩
      have K7 : Kept b w w7 := Kept.trans Kl2 k7
      have B0_7 := B0_l2.kept k7 (zG y1_BF)
      have B1_7 := B1_l2.kept k7 (zG y2_BF)
      have B2_7 := B2_l2.kept k7 (zG y3_BF)
      have z7 := B2_7.lies
      clear BF_l2 B0_l2 B1_l2 B2_l2 k7
      go_wp2_with fail
      refine wp_region_held_drew (S := fun _ => True) (by kernel_rfl) trivial (fun zH => ?_)
      refine zT 0 rfl (by kernel_rfl) (fun _ _ _ => id) rfl (fun _ _ => by go_simp <;> with_reducible rfl) zH ?_
      simp only [Act.put, zA, zB, zC]
      refine zT 1 rfl (by kernel_rfl) (fun _ _ _ => id) rfl (fun _ _ => by go_simp <;> with_reducible rfl) zH ?_
      simp only [Act.put, zA, zB, zC]
      refine zT 2 rfl (by kernel_rfl) (fun _ _ _ => id) rfl (fun _ _ => by go_simp <;> with_reducible rfl) zH ?_
      simp only [Act.put, zA, zB, zC]
      refine zT 3 rfl (by kernel_rfl) (fun _ _ _ => id) rfl (fun _ _ => by go_simp <;> with_reducible rfl) zH ?_
      simp only [Act.put, zA, zB, zC]
      refine zT 5 rfl (by kernel_rfl) (fun _ _ _ => id) rfl (fun _ _ => by have hi0 : (i : Int) < 6 := (by omega); go_simp <;> with_reducible rfl) zH ?_
      simp only [Act.put, zA, zB, zC]
      refine zK 4 (by kernel_rfl) rfl (fun K hK => ?_)
      go_simp
      refine (rSqrt_any b true r6.1 _ f7.drew).mono ?_
      rintro e w8 ⟨rfl, f8, k8⟩
      generalize e8 : sqrtS true r6.1 = r8 at f8 ⊢
      have E8 : Hid _ := e8
      clear e8
      have K8 : Kept b w w8 := Kept.trans K7.drew k8
      have B0_8 := B0_7.drew.kept k8 (zG y1_BF)
      have B1_8 := B1_7.drew.kept k8 (zG y2_BF)
      have B2_8 := B2_7.drew.kept k8 (zG y3_BF)
      have z8 := B2_8.lies
      clear zH
      refine hK.out _ _ trivial (fun zH => ?_)
      clear hK K K7 f7 B0_7 B1_7 B2_7 k8
      refine zT 6 rfl (by kernel_rfl) (fun _ _ _ => id) rfl (fun _ _ => by have hi0 : (j : Int) < 6 := (by omega); go_simp <;> with_reducible rfl) zH ?_
      simp only [Act.put, zA, zB, zC]
      refine zK 7 (by kernel_rfl) rfl (fun K hK => ?_)
      have c11_B2_0 : w8.cell? ⟨w.heap.size + 1 + 1, i * 6 + j, none⟩ = some (.int .i64 (s1.1 (i * 6 + j))) := row_c B2_8 (i * 6 + j) (by omega)
      have g11_B2_1 := row_f B2_8 (i * 6 + j) (by omega)
      go_simp
      clear zH
      refine hK.out _ _ trivial (fun zH => ?_)
      clear hK K c11_B2_0 g11_B2_1
      refine wpAnyH_done (by kernel_rfl) ?_ _
      clear zH
      go_wp2_with fail
      have hs1 : Hid (zRootS_l1 m i (s0.1, s0.2) (j + 1) = ((updF s1.1 (i * 6 + j) r8.1), r8.2)) := by show _ = _; unfold zRootS_l1; simp only [El1.out, E3.out, E6.out, E8.out]; rw [if_pos (by have := Hhc1.out; omega)]; rw [if_pos (by have := Hhc2.out; omega)]
      rw [hJ1.out]
      intro G_ hG_
      exact hG_ ((updF s1.1 (i * 6 + j) r8.1), r8.2) _ _ _ _ _ _ _ _ _ _ _ _ _ _ _ _ _ _ _ _ _ _ _ _ _ _ _ _ _ _ _ _ _ _ _ _ _ _ _ _ _ _ _ _ _ _ _ _ _ _ _ _ _ _ _ _ _ _ _ _ _ _ _ _ _ _ _ _ _ _ _ _ _ _ _ _ _ _ _ _ hs1 rfl (K8.new _ _ (by omega) _) (f8.new (w.heap.size + 1 + 1) (i * 6 + j) (zL y3_BF) (.int .i64 r8.1)) (B0_8.new (w.heap.size + 1 + 1) (i * 6 + j) (zL y3_B0) (.int .i64 r8.1)) (B1_8.new (w.heap.size + 1 + 1) (i * 6 + j) (zL y3_B1) (.int .i64 r8.1)) (row_put B2_8 (i * 6 + j) (by omega) r8.1)
     ·have Hhc2 : Hid (¬ r6.1 < 1) := hc2
      go_wp2_with fail
      refine wp_region_held_drew (S := fun _ => True) (by kernel_rfl) trivial (fun zH => ?_)
      refine zT 0 rfl (by kernel_rfl) (fun _ _ _ => id) rfl (fun _ _ => by go_simp <;> with_reducible rfl) zH ?_
      simp only [Act.put, zA, zB, zC]
      refine zT 1 rfl (by kernel_rfl) (fun _ _ _ => id) rfl (fun _ _ => by go_simp <;> with_reducible rfl) zH ?_
      simp only [Act.put, zA, zB, zC]
      refine zT 2 rfl (by kernel_rfl) (fun _ _ _ => id) rfl (fun _ _ => by go_simp <;> with_reducible rfl) zH ?_
      simp only [Act.put, zA, zB, zC]
      refine zT 3 rfl (by kernel_rfl) (fun _ _ _ => id) rfl (fun _ _ => by go_simp <;> with_reducible rfl) zH ?_
      simp only [Act.put, zA, zB, zC]
      refine zT 5 rfl (by kernel_rfl) (fun _ _ _ => id) rfl (fun _ _ => by have hi0 : (i : Int) < 6 := (by omega); go_simp <;> with_reducible rfl) zH ?_
      simp only [Act.put, zA, zB, zC]
      refine zK 4 (by kernel_rfl) rfl (fun K hK => ?_)
      go_simp
      refine (rSqrt_any b r6.2 r6.1 _ BF_l2.drew).mono ?_
      rintro e w7 ⟨rfl, f7, k7⟩
      generalize e7 : sqrtS r6.2 r6.1 = r7 at f7 ⊢
      have E7 : Hid _ := e7
      clear e7
      have K7 : Kept b w w7 := Kept.trans Kl2.drew k7
      have B0_7 := B0_l2.drew.kept k7 (zG y1_BF)
      have B1_7 := B1_l2.drew.kept k7 (zG y2_BF)
      have B2_7 := B2_l2.drew.kept k7 (zG y3_BF)
      have z7 := B2_7.lies
      clear zH
      refine hK.out _ _ trivial (fun zH => ?_)
      clear hK K BF_l2 B0_l2 B1_l2 B2_l2 k7
      refine zT 6 rfl (by kernel_rfl) (fun _ _ _ => id) rfl (fun _ _ => by have hi0 : (j : Int) < 6 := (by omega); go_simp <;> with_reducible rfl) zH ?_
      simp only [Act.put, zA, zB, zC]
      refine zK 7 (by kernel_rfl) rfl (fun K hK => ?_)
      have c10_B2_0 : w7.cell? ⟨w.heap.size + 1 + 1, i * 6 + j, none⟩ = some (.int .i64 (s1.1 (i * 6 + j))) := row_c B2_7 (i * 6 + j) (by omega)
      have g10_B2_1 := row_f B2_7 (i * 6 + j) (by omega)
      go_simp
      clear zH
      refine hK.out _ _ trivial (fun zH => ?_)
      clear hK K c10_B2_0 g10_B2_1
      refine wpAnyH_done (by kernel_rfl) ?_ _
      clear zH
      go_wp2_with fail
      have hs1 : Hid (zRootS_l1 m i (s0.1, s0.2) (j + 1) = ((updF s1.1 (i * 6 + j) r7.1), r7.2)) := by show _ = _; unfold zRootS_l1; simp only [El1.out, E3.out, E6.out, E7.out]; rw [if_pos (by have := Hhc1.out; omega)]; rw [if_neg (by have := Hhc2.out; omega)]
      rw [hJ1.out]
      intro G_ hG_
      exact hG_ ((updF s1.1 (i * 6 + j) r7.1), r7.2) _ _ _ _ _ _ _ _ _ _ _ _ _ _ _ _ _ _ _ _ _ _ _ _ _ _ _ _ _ _ _ _ _ _ _ _ _ _ _ _ _ _ _ _ _ _ _ _ _ _ _ _ _ _ _ _ _ _ _ _ _ _ _ _ _ _ _ _ _ _ _ _ _ _ _ _ _ _ _ _ hs1 rfl (K7.new _ _ (by omega) _) (f7.new (w.heap.size + 1 + 1) (i * 6 + j) (zL y3_BF) (.int .i64 r7.1)) (B0_7.new (w.heap.size + 1 + 1) (i * 6 + j) (zL y3_B0) (.int .i64 r7.1)) (B1_7.new (w.heap.size + 1 + 1) (i * 6 + j) (zL y3_B1) (.int .i64 r7.1)) (row_put B2_7 (i * 6 + j) (by omega) r7.1)
    ·have Hhc1 : Hid (¬ (i : Int) = (j : Int)) := hc1
     go_wp2_with fail
     refine wp_region_held_drew (S := fun w' => NearR (w.heap.size + 1 + 1) 36 s1.1 (i * 6 + j) w') (by kernel_rfl) (NearR.same B2_l2.drew) (fun zH => ?_)
     refine zT 0 rfl (by kernel_rfl) (fun _ _ _ => id) rfl (fun _ _ => by go_simp <;> with_reducible rfl) zH ?_
     simp only [Act.put, zA, zB, zC]
     refine zT 1 rfl (by kernel_rfl) (fun _ _ _ => id) rfl (fun _ _ => by go_simp <;> with_reducible rfl) zH ?_
     simp only [Act.put, zA, zB, zC]
     refine zT 2 rfl (by kernel_rfl) (fun _ _ _ => id) rfl (fun _ _ => by go_simp <;> with_reducible rfl) zH ?_
     simp only [Act.put, zA, zB, zC]
     refine zT 3 rfl (by kernel_rfl) (fun _ _ _ => id) rfl (fun _ _ => by go_simp <;> with_reducible rfl) zH ?_
     simp only [Act.put, zA, zB, zC]
     refine zT 4 rfl (by kernel_rfl) (fun _ _ _ => id) rfl (fun _ _ => by go_simp <;> with_reducible rfl) zH ?_
     simp only [Act.put, zA, zB, zC]
     refine zT 5 rfl (by kernel_rfl) (fun _ _ _ => id) rfl (fun _ _ => by go_simp <;> with_reducible rfl) zH ?_
     simp only [Act.put, zA, zB, zC]
     refine zT 6 rfl (by kernel_rfl) (fun _ _ _ => id) rfl (fun _ _ => by have hi0 : (j : Int) < 6 := (by omega); go_simp <;> with_reducible rfl) zH ?_
     simp only [Act.put, zA, zB, zC]
     refine zT 7 rfl (by kernel_rfl) (fun _ _ _ => id) rfl (fun _ _ => by have hi0 : (j : Int) < 6 := (by omega); go_simp <;> with_reducible rfl) zH ?_
     simp only [Act.put, zA, zB, zC]
     refine zT 8 rfl (by kernel_rfl) (fun _ _ _ => id) rfl (fun wx hS => by have hc0 : wx.cell? ⟨w.heap.size + 1 + 1, j * 6 + j, none⟩ = some (.int .i64 (s1.1 (j * 6 + j))) := near_c hS (j * 6 + j) (by omega) (by omega); go_simp <;> with_reducible rfl) zH ?_
     simp only [Act.put, zA, zB, zC]
     refine zT 10 rfl (by kernel_rfl) (fun _ _ _ => id) rfl (fun _ _ => by have hi0 : (i : Int) < 6 := (by omega); go_simp <;> with_reducible rfl) zH ?_
     simp only [Act.put, zA, zB, zC]
     refine zK 9 (by kernel_rfl) rfl (fun K hK => ?_)
     go_simp
     refine (rDiv_any b r6.2 r6.1 (s1.1 (j * 6 + j)) _ BF_l2.drew).mono ?_
     rintro e w7 ⟨rfl, f7, k7⟩
     generalize e7 : divS r6.2 r6.1 (s1.1 (j * 6 + j)) = r7 at f7 ⊢
     have E7 : Hid _ := e7
     clear e7
     have K7 : Kept b w w7 := Kept.trans Kl2.drew k7
     have B0_7 := B0_l2.drew.kept k7 (zG y1_BF)
     have B1_7 := B1_l2.drew.kept k7 (zG y2_BF)
     have B2_7 := B2_l2.drew.kept k7 (zG y3_BF)
     have z7 := B2_7.lies
     clear zH
     refine hK.out _ _ (NearR.same B2_7) (fun zH => ?_)
     clear hK K BF_l2 B0_l2 B1_l2 B2_l2 k7
     refine zT 11 rfl (by kernel_rfl) (fun _ _ _ => id) rfl (fun _ _ => by have hi0 : (j : Int) < 6 := (by omega); go_simp <;> with_reducible rfl) zH ?_
     simp only [Act.put, zA, zB, zC]
     refine zK 12 (by kernel_rfl) rfl (fun K hK => ?_)
     have c10_B2_0 : w7.cell? ⟨w.heap.size + 1 + 1, i * 6 + j, none⟩ = some (.int .i64 (s1.1 (i * 6 + j))) := row_c B2_7 (i * 6 + j) (by omega)
     have g10_B2_1 := row_f B2_7 (i * 6 + j) (by omega)
     go_simp
     clear zH
     refine hK.out _ _ (NearR.upd (row_put B2_7 (i * 6 + j) (by omega) r7.1)) (fun zH => ?_)
     clear hK K c10_B2_0 g10_B2_1
     refine wpAnyH_done (by kernel_rfl) ?_ _
     clear zH
     go_wp2_with fail
     have hs1 : Hid (zRootS_l1 m i (s0.1, s0.2) (j + 1) = ((updF s1.1 (i * 6 + j) r7.1), r7.2)) := by show _ = _; unfold zRootS_l1; simp only [El1.out, E3.out, E6.out, E7.out]; rw [if_neg (by have := Hhc1.out; omega)]
     rw [hJ1.out]
     intro G_ hG_
     exact hG_ ((updF s1.1 (i * 6 + j) r7.1), r7.2) _ _ _ _ _ _ _ _ _ _ _ _ _ _ _ _ _ _ _ _ _ _ _ _ _ _ _ _ _ _ _ _ _ _ _ _ _ _ _ _ _ _ _ _ _ _ _ _ _ _ _ _ _ _ _ _ _ _ _ _ _ _ _ _ _ _ _ _ _ _ _ _ _ _ _ _ _ _ _ _ hs1 rfl (K7.new _ _ (by omega) _) (f7.new (w.heap.size + 1 + 1) (i * 6 + j) (zL y3_BF) (.int .i64 r7.1)) (B0_7.new (w.heap.size + 1 + 1) (i * 6 + j) (zL y3_B0) (.int .i64 r7.1)) (B1_7.new (w.heap.size + 1 + 1) (i * 6 + j) (zL y3_B1) (.int .i64 r7.1)) (row_put B2_7 (i * 6 + j) (by omega) r7.1)
  ·intro a Wl1 hI R
   rw [hJ1.out] at hI
   refine hI _ ?_
   clear hI hJ1
   intro r4 n1 n3 n5 n10 n11 n12 n13 n14 n15 n16 n17 n18 n19 n20 n21 n22 n23 n24 n25 n26 n27 n28 n29 n30 n31 n32 n33 n34 n35 n36 n37 n38 n39 n40 n41 n42 n43 n44 n45 n46 n47 n48 n49 n50 n51 n52 n53 n54 n55 n56 n57 n58 n59 n60 n61 n62 n63 n64 n65 n66 n67 n68 n69 n70 n71 n72 n73 n74 n75 n76 n77 n78 n79 n80 n81 n82 n83 n84 n85 n86 E4 ea Kl1 BF_l1 B0_l1 B1_l1 B2_l1
   subst ea
   have zl1_BF := BF_l1.lies
   have zl1_B0 := B0_l1.lies
   have zl1_B1 := B1_l1.lies
   have zl1_B2 := B2_l1.lies
   go_wp2_with fail
   have hs0 : Hid (zRootS_l0 m ((fun _ => 0), bad) (i + 1) = (r4.1, r4.2)) := by show _ = _; unfold zRootS_l0; simp only [El0.out, E4.out]
   rw [hJ0.out]
   intro G_ hG_
   exact hG_ (r4.1, r4.2) _ _ _ _ _ _ _ _ _ _ _ _ _ _ _ _ _ _ _ _ _ _ _ _ _ _ _ _ _ _ _ _ _ _ _ _ _ _ _ _ _ _ _ _ _ _ _ _ _ _ _ _ _ _ _ _ _ _ _ _ _ _ _ _ _ _ _ _ _ _ _ _ _ _ _ _ _ _ _ _ _ hs0 rfl Kl1 BF_l1 B0_l1 B1_l1 B2_l1
 ·intro a Wl0 hI R
  rw [hJ0.out] at hI
  refine hI _ ?_
  clear hI hJ0
  intro r3 m1 m3 m5 m9 m10 m11 m12 m13 m14 m15 m16 m17 m18 m19 m20 m21 m22 m23 m24 m25 m26 m27 m28 m29 m30 m31 m32 m33 m34 m35 m36 m37 m38 m39 m40 m41 m42 m43 m44 m45 m46 m47 m48 m49 m50 m51 m52 m53 m54 m55 m56 m57 m58 m59 m60 m61 m62 m63 m64 m65 m66 m67 m68 m69 m70 m71 m72 m73 m74 m75 m76 m77 m78 m79 m80 m81 m82 m83 m84 m85 m86 E3 ea Kl0 BF_l0 B0_l0 B1_l0 B2_l0
  subst ea
  have zl0_BF := BF_l0.lies
  have zl0_B0 := B0_l0.lies
  have zl0_B1 := B1_l0.lies
  have zl0_B2 := B2_l0.lies
  rcases Bool.eq_false_or_eq_true r3.2 with hc1 | hc1
  ·have Hhc1 : Hid (r3.2 = true) := hc1
   have c5_BF := BF_l0.cell
   go_wp2_with (refine store_stop rfl (by kernel_rfl) ?_)
   clear c5_BF
   refine Stop.mk (store_row (l' := row 36 (fun _ => 0)) rfl rfl rfl rfl B1_l0 (by simp only [row_len]) (by rw [row_len]; kernel_rfl) (row_one _ _) ?_)
   intro w4 B1_4 o4
   have K4 : Kept b w w4 := Kept.off Kl0 o4 (by omega)
   have BF_4 := BF_l0.off o4 (zL y2_BF)
   have B0_4 := B0_l0.off o4 (zL y2_B0)
   have B2_4 := B2_l0.off o4 (zG y3_B1)
   have z4_B1 := B1_4.lies
   have z4_BF := BF_4.lies
   have z4_B0 := B0_4.lies
   have z4_B2 := B2_4.lies
   clear B1_l0 BF_l0 B0_l0 B2_l0 o4
   go_wp2_with (with_reducible refine post_stop ?_)
   refine Stop.mk ?_
   refine bodyPost_ret (v := .agg (row 36 (fun _ => 0)).toArray) (results_arr Tryz.results54 B1_4 rfl (by kernel_rfl) (by rw [row_len]; kernel_rfl)) rfl ?_
   have hs : zRootS bad m n = ((fun _ => 0), r3.2) := by unfold zRootS; simp only [E3.out]; rw [if_pos Hhc1.out]
   rw [hs]
   exact ⟨rfl, BF_4, K4⟩
  ·have Hhc1 : Hid (r3.2 = false) := hc1
   have c5_BF := BF_l0.cell
   go_wp2_with (first | (refine row_load rfl rfl rfl B2_l0 (by kernel_rfl) (by rw [row_len]; kernel_rfl) ?_) | (refine store_stop rfl (by kernel_rfl) ?_))
   clear c5_BF
   refine Stop.mk (store_row (l' := row 36 r3.1) rfl rfl rfl rfl B1_l0 (by simp only [row_len]) (by rw [row_len]; kernel_rfl) (row_one _ _) ?_)
   intro w4 B1_4 o4
   have K4 : Kept b w w4 := Kept.off Kl0 o4 (by omega)
   have BF_4 := BF_l0.off o4 (zL y2_BF)
   have B0_4 := B0_l0.off o4 (zL y2_B0)
   have B2_4 := B2_l0.off o4 (zG y3_B1)
   have z4_B1 := B1_4.lies
   have z4_BF := BF_4.lies
   have z4_B0 := B0_4.lies
   have z4_B2 := B2_4.lies
   clear B1_l0 BF_l0 B0_l0 B2_l0 o4
   go_wp2_with (with_reducible refine post_stop ?_)
   refine Stop.mk ?_
   refine bodyPost_ret (v := .agg (row 36 r3.1).toArray) (results_arr Tryz.results54 B1_4 rfl (by kernel_rfl) (by rw [row_len]; kernel_rfl)) rfl ?_
   have hs : zRootS bad m n = (r3.1, r3.2) := by unfold zRootS; simp only [E3.out]; rw [if_neg (by rw [Hhc1.out]; decide)]
   rw [hs]
   exact ⟨rfl, BF_4, K4⟩
end Go.Proofs.YtpjobkbefgehjaaGreat
namespace Go.Proofs.YtpjobkbefgehjaaGreat
open Go.RowKit
theorem zSolve_any (b : Nat) (bad : Bool) (l : Nat → Int) (p : Nat → Int) (n : Nat) (w : World) (hw : Fl b bad w) (hb : Hid (bad = false)) (h1 : 1 ≤ n) (h6 : n ≤ 6) :
  Calls Tryz.prog 55 #[.pointer (some ⟨b, 0, none⟩), .agg (row 36 l).toArray, .agg (row 6 p).toArray, .int .i64 (n : Int)] w fun e w' => e = .returned (.agg (row 6 ((zSolveS bad l p n).1)).toArray) ∧ Fl b (zSolveS bad l p n).2 w' ∧ Kept b w w' := by
 have hl := hw.lies
 go_enter Tryz.func55, Tryz.ntmps55
 have y1_BF := hw.lies
 have y2_BF : b < w.heap.size + 1 := (Nat.lt_succ_of_lt hw.lies)
 have y2_B0 : w.heap.size < w.heap.size + 1 := by omega
 have y3_BF : b < w.heap.size + 1 + 1 := (Nat.lt_succ_of_lt (Nat.lt_succ_of_lt hw.lies))
 have y3_B0 : w.heap.size < w.heap.size + 1 + 1 := by omega
 have y3_B1 : w.heap.size + 1 < w.heap.size + 1 + 1 := by omega
 have y4_BF : b < w.heap.size + 1 + 1 + 1 := (Nat.lt_succ_of_lt (Nat.lt_succ_of_lt (Nat.lt_succ_of_lt hw.lies)))
 have y4_B0 : w.heap.size < w.heap.size + 1 + 1 + 1 := by omega
 have y4_B1 : w.heap.size + 1 < w.heap.size + 1 + 1 + 1 := by omega
 have y4_B2 : w.heap.size + 1 + 1 < w.heap.size + 1 + 1 + 1 := by omega
 go_wp2_with fail
 refine (zsize_any b bad (n : Int) _ ((((hw.alloc _).alloc _).alloc _).alloc _)).mono ?_
 rintro e w1 ⟨rfl, f1, k1⟩
 rw [(size_in hb h1 h6)] at f1 ⊢
 dsimp only at f1 ⊢
 have K1 : Kept b w w1 := Kept.trans (((((Kept.refl b w).al _).al _).al _).al _) k1
 have B0_1 := ((((Arr_at _ w.heap.size (row 36 l) _ (by simp)).alloc _).alloc _).alloc _).kept k1 (zG y1_BF)
 have B1_1 := (((Arr_at _ (w.heap.size + 1) (row 6 p) _ (by simp)).alloc _).alloc _).kept k1 (zG y2_BF)
 have B2_1 := ((Arr_at _ (w.heap.size + 1 + 1) [.int .i64 0, .int .i64 0, .int .i64 0, .int .i64 0, .int .i64 0, .int .i64 0] _ (by simp)).alloc _).kept k1 (zG y3_BF)
 have B3_1 := (Arr_at _ (w.heap.size + 1 + 1 + 1) [.int .i64 0, .int .i64 0, .int .i64 0, .int .i64 0, .int .i64 0, .int .i64 0] _ (by simp)).kept k1 (zG y4_BF)
 have z1 := B3_1.lies
 clear k1
 have y5_BF := f1.lies
 have y5_B0 := B0_1.lies
 have y5_B1 := B1_1.lies
 have y5_B2 := B2_1.lies
 have y5_B3 := B3_1.lies
 go_wp2_with fail
 obtain ⟨J2, hJ2⟩ : ∃ J : Nat → Act → World → Prop, Hid (J = fun i a Wl2 => ∀ G_ : Prop, (∀ (s2 : (Nat → Int) × Bool) (j1 j2 j4 j7 j12 j13 j14 j15 j16 j17 j18 j19 j20 j21 j22 j23 j24 j25 j26 j27 j28 j29 j30 j31 j32 j33 j34 j35 j36 j37 j38 j39 j40 j41 j42 j43 j44 j45 j46 j47 j48 j49 j50 j51 j52 j53 j54 j55 j56 j57 j58 j59 j60 j61 j62 j63 j64 j65 j66 j67 j68 j69 j70 j71 j72 j73 j74 j75 j76 j77 j78 j79 j80 j81 j82 j83 j84 j85 j86 j87 j88 j89 j90 j91 j92 j93 j94 j95 j96 j97 j98 j99 j100 j101 j102 j103 j104 j105 j106 : Value), Hid (zSolveS_l2 l p ((fun _ => 0), bad) i = s2) → a = { tmps := #[.pointer (some ⟨b, 0, none⟩), j1, j2, .int .i64 (n : Int), j4, .pointer (some ⟨w.heap.size, 0, none⟩), .pointer (some ⟨w.heap.size + 1, 0, none⟩), j7, .pointer (some ⟨w.heap.size + 1 + 1, 0, none⟩), .pointer (some ⟨w.heap.size + 1 + 1 + 1, 0, none⟩), .pointer (some ⟨w1.heap.size, 0, none⟩), .int .i64 (i : Int), j12, j13, j14, j15, j16, j17, j18, j19, j20, j21, j22, j23, j24, j25, j26, j27, j28, j29, j30, j31, j32, j33, j34, j35, j36, j37, j38, j39, j40, j41, j42, j43, j44, j45, j46, j47, j48, j49, j50, j51, j52, j53, j54, j55, j56, j57, j58, j59, j60, j61, j62, j63, j64, j65, j66, j67, j68, j69, j70, j71, j72, j73, j74, j75, j76, j77, j78, j79, j80, j81, j82, j83, j84, j85, j86, j87, j88, j89, j90, j91, j92, j93, j94, j95, j96, j97, j98, j99, j100, j101, j102, j103, j104, j105, j106], defers := [] } → Kept b w Wl2 → Fl b s2.2 Wl2 → Arr w.heap.size (row 36 l) Wl2 → Arr (w.heap.size + 1) (row 6 p) Wl2 → Arr (w.heap.size + 1 + 1) (row 6 (fun _ => 0)) Wl2 → Arr (w.heap.size + 1 + 1 + 1) (row 6 (fun _ => 0)) Wl2 → Arr w1.heap.size (row 6 s2.1) Wl2 → G_) → G_) := ⟨_, rfl⟩
 refine rounds_up J2 n ?_ ?_ ?_
 ·rw [hJ2.out]
  intro G_ hG_
  exact hG_ ((fun _ => 0), bad) _ _ _ _ _ _ _ _ _ _ _ _ _ _ _ _ _ _ _ _ _ _ _ _ _ _ _ _ _ _ _ _ _ _ _ _ _ _ _ _ _ _ _ _ _ _ _ _ _ _ _ _ _ _ _ _ _ _ _ _ _ _ _ _ _ _ _ _ _ _ _ _ _ _ _ _ _ _ _ _ _ _ _ _ _ _ _ _ _ _ _ _ _ _ _ _ _ _ _ rfl rfl (K1.al _) (f1.alloc _) (B0_1.alloc _) (B1_1.alloc _) (B2_1.alloc _) (B3_1.alloc _) (Arr_at _ _ (row 6 (fun _ => 0)) _ (by simp))
 ·intro i a Wl2 hi hI R hR
  rw [hJ2.out] at hI
  refine hI _ ?_
  clear hI
  intro s2 j1 j2 j4 j7 j12 j13 j14 j15 j16 j17 j18 j19 j20 j21 j22 j23 j24 j25 j26 j27 j28 j29 j30 j31 j32 j33 j34 j35 j36 j37 j38 j39 j40 j41 j42 j43 j44 j45 j46 j47 j48 j49 j50 j51 j52 j53 j54 j55 j56 j57 j58 j59 j60 j61 j62 j63 j64 j65 j66 j67 j68 j69 j70 j71 j72 j73 j74 j75 j76 j77 j78 j79 j80 j81 j82 j83 j84 j85 j86 j87 j88 j89 j90 j91 j92 j93 j94 j95 j96 j97 j98 j99 j100 j101 j102 j103 j104 j105 j106 El2 ea Kl2 BF_l2 B0_l2 B1_l2 B2_l2 B3_l2 B4_l2
  subst ea
  have zl2_BF := BF_l2.lies
  have zl2_B0 := B0_l2.lies
  have zl2_B1 := B1_l2.lies
  have zl2_B2 := B2_l2.lies
  have zl2_B3 := B3_l2.lies
  have zl2_B4 := B4_l2.lies
  have c3_B1_0 : Wl2.cell? ⟨w.heap.size + 1, i, none⟩ = some (.int .i64 (p i)) := row_c B1_l2 i (by omega)
  have i3_1 : (i : Int) < 6 := by omega
  go_wp2_with fail
  refine (rAdd_any b s2.2 (p i) 0 _ BF_l2).mono ?_
  rintro e w2 ⟨rfl, f2, k2⟩
  generalize e2 : addS s2.2 (p i) 0 = r2 at f2 ⊢
  have E2 : Hid _ := e2
  clear e2
  have K2 : Kept b w w2 := Kept.trans Kl2 k2
  have B0_2 := B0_l2.kept k2 (zG y1_BF)
  have B1_2 := B1_l2.kept k2 (zG y2_BF)
  have B2_2 := B2_l2.kept k2 (zG y3_BF)
  have B3_2 := B3_l2.kept k2 (zG y4_BF)
  have B4_2 := B4_l2.kept k2 (zG y5_BF)
  have z2 := B4_2.lies
  clear c3_B1_0 i3_1 BF_l2 B0_l2 B1_l2 B2_l2 B3_l2 B4_l2 k2
  go_wp2_with fail
  obtain ⟨J3, hJ3⟩ : ∃ J : Nat → Act → World → Prop, Hid (J = fun k a Wl3 => ∀ G_ : Prop, (∀ (s3 : Int × Bool) (l1 l2 l4 l7 l14 l15 l16 l17 l18 l19 l20 l21 l22 l23 l24 l25 l26 l27 l28 l29 l30 l31 l32 l33 l34 l35 l36 l37 l38 l39 l40 l41 l42 l43 l44 l45 l46 l47 l48 l49 l50 l51 l52 l53 l54 l55 l56 l57 l58 l59 l60 l61 l62 l63 l64 l65 l66 l67 l68 l69 l70 l71 l72 l73 l74 l75 l76 l77 l78 l79 l80 l81 l82 l83 l84 l85 l86 l87 l88 l89 l90 l91 l92 l93 l94 l95 l96 l97 l98 l99 l100 l101 l102 l103 l104 l105 l106 : Value), Hid (zSolveS_l3 l i s2 (r2.1, r2.2) k = s3) → a = { tmps := #[.pointer (some ⟨b, 0, none⟩), l1, l2, .int .i64 (n : Int), l4, .pointer (some ⟨w.heap.size, 0, none⟩), .pointer (some ⟨w.heap.size + 1, 0, none⟩), l7, .pointer (some ⟨w.heap.size + 1 + 1, 0, none⟩), .pointer (some ⟨w.heap.size + 1 + 1 + 1, 0, none⟩), .pointer (some ⟨w1.heap.size, 0, none⟩), .int .i64 (i : Int), .int .i64 s3.1, .int .i64 (k : Int), l14, l15, l16, l17, l18, l19, l20, l21, l22, l23, l24, l25, l26, l27, l28, l29, l30, l31, l32, l33, l34, l35, l36, l37, l38, l39, l40, l41, l42, l43, l44, l45, l46, l47, l48, l49, l50, l51, l52, l53, l54, l55, l56, l57, l58, l59, l60, l61, l62, l63, l64, l65, l66, l67, l68, l69, l70, l71, l72, l73, l74, l75, l76, l77, l78, l79, l80, l81, l82, l83, l84, l85, l86, l87, l88, l89, l90, l91, l92, l93, l94, l95, l96, l97, l98, l99, l100, l101, l102, l103, l104, l105, l106], defers := [] } → Kept b w Wl3 → Fl b s3.2 Wl3 → Arr w.heap.size (row 36 l) Wl3 → Arr (w.heap.size + 1) (row 6 p) Wl3 → Arr (w.heap.size + 1 + 1) (row 6 (fun _ => 0)) Wl3 → Arr (w.heap.size + 1 + 1 + 1) (row 6 (fun _ => 0)) Wl3 → Arr w1.heap.size (row 6 s2.1) Wl3 → G_) → G_) := ⟨_, rfl⟩
  refine rounds_up J3 i ?_ ?_ ?_
  ·rw [hJ3.out]
   intro G_ hG_
   exact hG_ (r2.1, r2.2) _ _ _ _ _ _ _ _ _ _ _ _ _ _ _ _ _ _ _ _ _ _ _ _ _ _ _ _ _ _ _ _ _ _ _ _ _ _ _ _ _ _ _ _ _ _ _ _ _ _ _ _ _ _ _ _ _ _ _ _ _ _ _ _ _ _ _ _ _ _ _ _ _ _ _ _ _ _ _ _ _ _ _ _ _ _ _ _ _ _ _ _ _ _ _ _ _ rfl rfl K2 f2 B0_2 B1_2 B2_2 B3_2 B4_2
  ·intro k a Wl3 hk hI R hR
   rw [hJ3.out] at hI
   refine hI _ ?_
   clear hI
   intro s3 l1 l2 l4 l7 l14 l15 l16 l17 l18 l19 l20 l21 l22 l23 l24 l25 l26 l27 l28 l29 l30 l31 l32 l33 l34 l35 l36 l37 l38 l39 l40 l41 l42 l43 l44 l45 l46 l47 l48 l49 l50 l51 l52 l53 l54 l55 l56 l57 l58 l59 l60 l61 l62 l63 l64 l65 l66 l67 l68 l69 l70 l71 l72 l73 l74 l75 l76 l77 l78 l79 l80 l81 l82 l83 l84 l85 l86 l87 l88 l89 l90 l91 l92 l93 l94 l95 l96 l97 l98 l99 l100 l101 l102 l103 l104 l105 l106 El3 ea Kl3 BF_l3 B0_l3 B1_l3 B2_l3 B3_l3 B4_l3
   subst ea
   have zl3_BF := BF_l3.lies
   have zl3_B0 := B0_l3.lies
   have zl3_B1 := B1_l3.lies
   have zl3_B2 := B2_l3.lies
   have zl3_B3 := B3_l3.lies
   have zl3_B4 := B4_l3.lies
   go_wp2_with fail
   refine wp_region_held_drew (S := fun w' => Arr w.heap.size (row 36 l) w' ∧ Arr w1.heap.size (row 6 s2.1) w') (by kernel_rfl) ⟨B0_l3.drew, B4_l3.drew⟩ (fun zH => ?_)
   refine zT 0 rfl (by kernel_rfl) (fun _ _ _ => id) rfl (fun _ _ => by go_simp <;> with_reducible rfl) zH ?_
   simp only [Act.put, zA, zB, zC]
   refine zT 1 rfl (by kernel_rfl) (fun _ _ _ => id) rfl (fun _ _ => by go_simp <;> with_reducible rfl) zH ?_
   simp only [Act.put, zA, zB, zC]
   refine zT 2 rfl (by kernel_rfl) (fun _ _ _ => id) rfl (fun _ _ => by go_simp <;> with_reducible rfl) zH ?_
   simp only [Act.put, zA, zB, zC]
   refine zT 3 rfl (by kernel_rfl) (fun _ _ _ => id) rfl (fun _ _ => by go_simp <;> with_reducible rfl) zH ?_
   simp only [Act.put, zA, zB, zC]
   refine zT 4 rfl (by kernel_rfl) (fun _ _ _ => id) rfl (fun _ _ => by go_simp <;> with_reducible rfl) zH ?_
   simp only [Act.put, zA, zB, zC]
   refine zT 5 rfl (by kernel_rfl) (fun _ _ _ => id) rfl (fun _ _ => by have hi0 : (i : Int) < 6 := (by omega); go_simp <;> with_reducible rfl) zH ?_
   simp only [Act.put, zA, zB, zC]
   refine zT 6 rfl (by kernel_rfl) (fun _ _ _ => id) rfl (fun _ _ => by have hi0 : (k : Int) < 6 := (by omega); go_simp <;> with_reducible rfl) zH ?_
   simp only [Act.put, zA, zB, zC]
   refine zT 7 rfl (by kernel_rfl) (fun _ _ _ => id) rfl (fun wx hS => by have hc0 : wx.cell? ⟨w.heap.size, i * 6 + k, none⟩ = some (.int .i64 (l (i * 6 + k))) := row_c hS.1 (i * 6 + k) (by omega); go_simp <;> with_reducible rfl) zH ?_
   simp only [Act.put, zA, zB, zC]
   refine zT 8 rfl (by kernel_rfl) (fun _ _ _ => id) rfl (fun _ _ => by go_simp <;> with_reducible rfl) zH ?_
   simp only [Act.put, zA, zB, zC]
   refine zT 9 rfl (by kernel_rfl) (fun _ _ _ => id) rfl (fun _ _ => by have hi0 : (k : Int) < 6 := (by omega); go_simp <;> with_reducible rfl) zH ?_
   simp only [Act.put, zA, zB, zC]
   refine zT 10 rfl (by kernel_rfl) (fun _ _ _ => id) rfl (fun wx hS => by have hc0 : wx.cell? ⟨w1.heap.size, k, none⟩ = some (.int .i64 (s2.1 k)) := row_c hS.2 k (by omega); go_simp <;> with_reducible rfl) zH ?_
   simp only [Act.put, zA, zB, zC]
   refine zK 11 (by kernel_rfl) rfl (fun K hK => ?_)
   go_simp
   refine (rMul_any b s3.2 (l (i * 6 + k)) (s2.1 k) _ BF_l3.drew).mono ?_
   rintro e w3 ⟨rfl, f3, k3⟩
   generalize e3 : mulS s3.2 (l (i * 6 + k)) (s2.1 k) = r3 at f3 ⊢
   have E3 : Hid _ := e3
   clear e3
   have K3 : Kept b w w3 := Kept.trans Kl3.drew k3
   have B0_3 := B0_l3.drew.kept k3 (zG y1_BF)
   have B1_3 := B1_l3.drew.kept k3 (zG y2_BF)
   have B2_3 := B2_l3.drew.kept k3 (zG y3_BF)
   have B3_3 := B3_l3.drew.kept k3 (zG y4_BF)
   have B4_3 := B4_l3.drew.kept k3 (zG y5_BF)
   have z3 := B4_3.lies
   clear zH
   refine hK.out _ _ ⟨B0_3, B4_3⟩ (fun zH => ?_)
   clear hK K BF_l3 B0_l3 B1_l3 B2_l3 B3_l3 B4_l3 k3
   refine zK 12 (by kernel_rfl) rfl (fun K hK => ?_)
   go_simp
   refine (rSub_any b r3.2 s3.1 r3.1 _ f3).mono ?_
   rintro e w4 ⟨rfl, f4, k4⟩
   generalize e4 : subS r3.2 s3.1 r3.1 = r4 at f4 ⊢
   have E4 : Hid _ := e4
   clear e4
   have K4 := Kept.trans K3 k4
   have B0_4 := B0_3.kept k4 (zG y1_BF)
   have B1_4 := B1_3.kept k4 (zG y2_BF)
   have B2_4 := B2_3.kept k4 (zG y3_BF)
   have B3_4 := B3_3.kept k4 (zG y4_BF)
   have B4_4 := B4_3.kept k4 (zG y5_BF)
   have z4 := B4_4.lies
   clear zH
   refine hK.out _ _ ⟨B0_4, B4_4⟩ (fun zH => ?_)
   clear hK K K3 f3 B0_3 B1_3 B2_3 B3_3 B4_3 k4
   refine zT 13 rfl (by kernel_rfl) (fun _ _ _ => id) rfl (fun _ _ => by go_simp <;> with_reducible rfl) zH ?_
   simp only [Act.put, zA, zB, zC]
   refine wpAnyH_done (by kernel_rfl) ?_ _
   clear zH
   go_wp2_with fail
   have hs3 : Hid (zSolveS_l3 l i s2 (r2.1, r2.2) (k + 1) = (r4.1, r4.2)) := by show _ = _; unfold zSolveS_l3; simp only [El3.out, E3.out, E4.out]
   rw [hJ3.out]
   intro G_ hG_
   exact hG_ (r4.1, r4.2) _ _ _ _ _ _ _ _ _ _ _ _ _ _ _ _ _ _ _ _ _ _ _ _ _ _ _ _ _ _ _ _ _ _ _ _ _ _ _ _ _ _ _ _ _ _ _ _ _ _ _ _ _ _ _ _ _ _ _ _ _ _ _ _ _ _ _ _ _ _ _ _ _ _ _ _ _ _ _ _ _ _ _ _ _ _ _ _ _ _ _ _ _ _ _ _ _ hs3 rfl K4 f4 B0_4 B1_4 B2_4 B3_4 B4_4
  ·intro a Wl3 hI R
   rw [hJ3.out] at hI
   refine hI _ ?_
   clear hI hJ3
   intro r5 l1 l2 l4 l7 l14 l15 l16 l17 l18 l19 l20 l21 l22 l23 l24 l25 l26 l27 l28 l29 l30 l31 l32 l33 l34 l35 l36 l37 l38 l39 l40 l41 l42 l43 l44 l45 l46 l47 l48 l49 l50 l51 l52 l53 l54 l55 l56 l57 l58 l59 l60 l61 l62 l63 l64 l65 l66 l67 l68 l69 l70 l71 l72 l73 l74 l75 l76 l77 l78 l79 l80 l81 l82 l83 l84 l85 l86 l87 l88 l89 l90 l91 l92 l93 l94 l95 l96 l97 l98 l99 l100 l101 l102 l103 l104 l105 l106 E5 ea Kl3 BF_l3 B0_l3 B1_l3 B2_l3 B3_l3 B4_l3
   subst ea
   have zl3_BF := BF_l3.lies
   have zl3_B0 := B0_l3.lies
   have zl3_B1 := B1_l3.lies
   have zl3_B2 := B2_l3.lies
   have zl3_B3 := B3_l3.lies
   have zl3_B4 := B4_l3.lies
   have c7_B0_0 : Wl3.cell? ⟨w.heap.size, i * 6 + i, none⟩ = some (.int .i64 (l (i * 6 + i))) := row_c B0_l3 (i * 6 + i) (by omega)
   have i7_1 : (i : Int) < 6 := by omega
   go_wp2_with fail
   refine (rDiv_any b r5.2 r5.1 (l (i * 6 + i)) _ BF_l3).mono ?_
   rintro e w6 ⟨rfl, f6, k6⟩
   generalize e6 : divS r5.2 r5.1 (l (i * 6 + i)) = r6 at f6 ⊢
   have E6 : Hid _ := e6
   clear e6
   have K6 : Kept b w w6 := Kept.trans Kl3 k6
   have B0_6 := B0_l3.kept k6 (zG y1_BF)
   have B1_6 := B1_l3.kept k6 (zG y2_BF)
   have B2_6 := B2_l3.kept k6 (zG y3_BF)
   have B3_6 := B3_l3.kept k6 (zG y4_BF)
   have B4_6 := B4_l3.kept k6 (zG y5_BF)
   have z6 := B4_6.lies
   clear c7_B0_0 i7_1 BF_l3 B0_l3 B1_l3 B2_l3 B3_l3 B4_l3 k6
   have c8_B4_0 : w6.cell? ⟨w1.heap.size, i, none⟩ = some (.int .i64 (s2.1 i)) := row_c B4_6 i (by omega)
   have g8_B4_1 := row_f B4_6 i (by omega)
   have i8_2 : (i : Int) < 6 := by omega
   go_wp2_with fail
   clear c8_B4_0 g8_B4_1 i8_2
   have hs2 : Hid (zSolveS_l2 l p ((fun _ => 0), bad) (i + 1) = ((updF s2.1 i r6.1), r6.2)) := by show _ = _; unfold zSolveS_l2; simp only [El2.out, E2.out, E5.out, E6.out]
   rw [hJ2.out]
   intro G_ hG_
   exact hG_ ((updF s2.1 i r6.1), r6.2) _ _ _ _ _ _ _ _ _ _ _ _ _ _ _ _ _ _ _ _ _ _ _ _ _ _ _ _ _ _ _ _ _ _ _ _ _ _ _ _ _ _ _ _ _ _ _ _ _ _ _ _ _ _ _ _ _ _ _ _ _ _ _ _ _ _ _ _ _ _ _ _ _ _ _ _ _ _ _ _ _ _ _ _ _ _ _ _ _ _ _ _ _ _ _ _ _ _ _ hs2 rfl (K6.new _ _ (by omega) _) (f6.new w1.heap.size i (zL y5_BF) (.int .i64 r6.1)) (B0_6.new w1.heap.size i (zL y5_B0) (.int .i64 r6.1)) (B1_6.new w1.heap.size i (zL y5_B1) (.int .i64 r6.1)) (B2_6.new w1.heap.size i (zL y5_B2) (.int .i64 r6.1)) (B3_6.new w1.heap.size i (zL y5_B3) (.int .i64 r6.1)) (row_put B4_6 i (by omega) r6.1)
 ·intro a Wl2 hI R
  rw [hJ2.out] at hI
  refine hI _ ?_
  clear hI hJ2
  intro r3 j1 j2 j4 j7 j12 j13 j14 j15 j16 j17 j18 j19 j20 j21 j22 j23 j24 j25 j26 j27 j28 j29 j30 j31 j32 j33 j34 j35 j36 j37 j38 j39 j40 j41 j42 j43 j44 j45 j46 j47 j48 j49 j50 j51 j52 j53 j54 j55 j56 j57 j58 j59 j60 j61 j62 j63 j64 j65 j66 j67 j68 j69 j70 j71 j72 j73 j74 j75 j76 j77 j78 j79 j80 j81 j82 j83 j84 j85 j86 j87 j88 j89 j90 j91 j92 j93 j94 j95 j96 j97 j98 j99 j100 j101 j102 j103 j104 j105 j106 E3 ea Kl2 BF_l2 B0_l2 B1_l2 B2_l2 B3_l2 B4_l2
  subst ea
  have zl2_BF := BF_l2.lies
  have zl2_B0 := B0_l2.lies
  have zl2_B1 := B1_l2.lies
  have zl2_B2 := B2_l2.lies
  have zl2_B3 := B3_l2.lies
  have zl2_B4 := B4_l2.lies
  go_wp2_with fail
  obtain ⟨J0, hJ0⟩ : ∃ J : Nat → Act → World → Prop, Hid (J = fun d a Wl0 => ∀ G_ : Prop, (∀ (s0 : (Nat → Int) × Bool) (m1 m2 m4 m6 m7 m11 m12 m13 m15 m16 m17 m18 m19 m20 m21 m22 m23 m24 m25 m26 m27 m28 m29 m30 m31 m32 m33 m34 m35 m36 m37 m38 m39 m40 m41 m42 m43 m44 m45 m46 m47 m48 m49 m50 m51 m52 m53 m54 m55 m56 m57 m58 m59 m60 m61 m62 m63 m64 m65 m66 m67 m68 m69 m70 m71 m72 m73 m74 m75 m76 m77 m78 m79 m80 m81 m82 m83 m84 m85 m86 m87 m88 m89 m90 m91 m92 m93 m94 m95 m96 m97 m98 m99 m100 m101 m102 m103 m104 m105 m106 : Value) (v0 : Int), Hid (zSolveS_l0 l n r3 ((fun _ => 0), r3.2) d = s0) → Hid (v0 = (n : Int) - 1 - (d : Int)) → a = { tmps := #[.pointer (some ⟨b, 0, none⟩), m1, m2, .int .i64 (n : Int), m4, .pointer (some ⟨w.heap.size, 0, none⟩), m6, m7, .pointer (some ⟨w.heap.size + 1 + 1, 0, none⟩), .pointer (some ⟨w.heap.size + 1 + 1 + 1, 0, none⟩), .pointer (some ⟨w1.heap.size, 0, none⟩), m11, m12, m13, .int .i64 v0, m15, m16, m17, m18, m19, m20, m21, m22, m23, m24, m25, m26, m27, m28, m29, m30, m31, m32, m33, m34, m35, m36, m37, m38, m39, m40, m41, m42, m43, m44, m45, m46, m47, m48, m49, m50, m51, m52, m53, m54, m55, m56, m57, m58, m59, m60, m61, m62, m63, m64, m65, m66, m67, m68, m69, m70, m71, m72, m73, m74, m75, m76, m77, m78, m79, m80, m81, m82, m83, m84, m85, m86, m87, m88, m89, m90, m91, m92, m93, m94, m95, m96, m97, m98, m99, m100, m101, m102, m103, m104, m105, m106], defers := [] } → Kept b w Wl0 → Fl b s0.2 Wl0 → Arr w.heap.size (row 36 l) Wl0 → Arr (w.heap.size + 1) (row 6 p) Wl0 → Arr (w.heap.size + 1 + 1) (row 6 (fun _ => 0)) Wl0 → Arr (w.heap.size + 1 + 1 + 1) (row 6 s0.1) Wl0 → Arr w1.heap.size (row 6 r3.1) Wl0 → G_) → G_) := ⟨_, rfl⟩
  refine rounds_up J0 n ?_ ?_ ?_
  ·rw [hJ0.out]
   intro G_ hG_
   exact hG_ ((fun _ => 0), r3.2) _ _ _ _ _ _ _ _ _ _ _ _ _ _ _ _ _ _ _ _ _ _ _ _ _ _ _ _ _ _ _ _ _ _ _ _ _ _ _ _ _ _ _ _ _ _ _ _ _ _ _ _ _ _ _ _ _ _ _ _ _ _ _ _ _ _ _ _ _ _ _ _ _ _ _ _ _ _ _ _ _ _ _ _ _ _ _ _ _ _ _ _ _ _ _ _ _ _ _ _ _ rfl (show _ = _ by omega) rfl Kl2 BF_l2 B0_l2 B1_l2 B2_l2 B3_l2 B4_l2
  ·intro d a Wl0 hd hI R hR
   rw [hJ0.out] at hI
   refine hI _ ?_
   clear hI
   intro s0 m1 m2 m4 m6 m7 m11 m12 m13 m15 m16 m17 m18 m19 m20 m21 m22 m23 m24 m25 m26 m27 m28 m29 m30 m31 m32 m33 m34 m35 m36 m37 m38 m39 m40 m41 m42 m43 m44 m45 m46 m47 m48 m49 m50 m51 m52 m53 m54 m55 m56 m57 m58 m59 m60 m61 m62 m63 m64 m65 m66 m67 m68 m69 m70 m71 m72 m73 m74 m75 m76 m77 m78 m79 m80 m81 m82 m83 m84 m85 m86 m87 m88 m89 m90 m91 m92 m93 m94 m95 m96 m97 m98 m99 m100 m101 m102 m103 m104 m105 m106 v0 El0 V0 ea Kl0 BF_l0 B0_l0 B1_l0 B2_l0 B3_l0 B4_l0
   subst ea
   have zl0_BF := BF_l0.lies
   have zl0_B0 := B0_l0.lies
   have zl0_B1 := B1_l0.lies
   have zl0_B2 := B2_l0.lies
   have zl0_B3 := B3_l0.lies
   have zl0_B4 := B4_l0.lies
   obtain ⟨i, hi⟩ : ∃ i, n - 1 - d = i := ⟨_, rfl⟩
   obtain rfl : v0 = (i : Int) := by have := V0.out; omega
   have Hi : i + d + 1 = n := by omega
   have Xi : Hid (n - 1 - d = i) := hi
   clear hi V0
   have c6_B4_0 : Wl0.cell? ⟨w1.heap.size, i, none⟩ = some (.int .i64 (r3.1 i)) := row_c B4_l0 i (by omega)
   have i6_1 : (i : Int) < 6 := by omega
   go_wp2_with fail
   clear c6_B4_0 i6_1
   obtain ⟨J1, hJ1⟩ : ∃ J : Nat → Act → World → Prop, Hid (J = fun k a Wl1 => ∀ G_ : Prop, (∀ (s1 : Int × Bool) (n1 n2 n4 n6 n7 n11 n12 n13 n17 n18 n19 n20 n21 n22 n23 n24 n25 n26 n27 n28 n29 n30 n31 n32 n33 n34 n35 n36 n37 n38 n39 n40 n41 n42 n43 n44 n45 n46 n47 n48 n49 n50 n51 n52 n53 n54 n55 n56 n57 n58 n59 n60 n61 n62 n63 n64 n65 n66 n67 n68 n69 n70 n71 n72 n73 n74 n75 n76 n77 n78 n79 n80 n81 n82 n83 n84 n85 n86 n87 n88 n89 n90 n91 n92 n93 n94 n95 n96 n97 n98 n99 n100 n101 n102 n103 n104 n105 n106 : Value) (v1 : Int), Hid (zSolveS_l1 l i s0 ((r3.1 i), s0.2) k = s1) → Hid (v1 = (i : Int) + 1 + (k : Int)) → a = { tmps := #[.pointer (some ⟨b, 0, none⟩), n1, n2, .int .i64 (n : Int), n4, .pointer (some ⟨w.heap.size, 0, none⟩), n6, n7, .pointer (some ⟨w.heap.size + 1 + 1, 0, none⟩), .pointer (some ⟨w.heap.size + 1 + 1 + 1, 0, none⟩), .pointer (some ⟨w1.heap.size, 0, none⟩), n11, n12, n13, .int .i64 (i : Int), .int .i64 s1.1, .int .i64 v1, n17, n18, n19, n20, n21, n22, n23, n24, n25, n26, n27, n28, n29, n30, n31, n32, n33, n34, n35, n36, n37, n38, n39, n40, n41, n42, n43, n44, n45, n46, n47, n48, n49, n50, n51, n52, n53, n54, n55, n56, n57, n58, n59, n60, n61, n62, n63, n64, n65, n66, n67, n68, n69, n70, n71, n72, n73, n74, n75, n76, n77, n78, n79, n80, n81, n82, n83, n84, n85, n86, n87, n88, n89, n90, n91, n92, n93, n94, n95, n96, n97, n98, n99, n100, n101, n102, n103, n104, n105, n106], defers := [] } → Kept b w Wl1 → Fl b s1.2 Wl1 → Arr w.heap.size (row 36 l) Wl1 → Arr (w.heap.size + 1) (row 6 p) Wl1 → Arr (w.heap.size + 1 + 1) (row 6 (fun _ => 0)) Wl1 → Arr (w.heap.size + 1 + 1 + 1) (row 6 s0.1) Wl1 → Arr w1.heap.size (row 6 r3.1) Wl1 → G_) → G_) := ⟨_, rfl⟩
   refine rounds_up J1 d ?_ ?_ ?_
   ·rw [hJ1.out]
    intro G_ hG_
    exact hG_ ((r3.1 i), s0.2) _ _ _ _ _ _ _ _ _ _ _ _ _ _ _ _ _ _ _ _ _ _ _ _ _ _ _ _ _ _ _ _ _ _ _ _ _ _ _ _ _ _ _ _ _ _ _ _ _ _ _ _ _ _ _ _ _ _ _ _ _ _ _ _ _ _ _ _ _ _ _ _ _ _ _ _ _ _ _ _ _ _ _ _ _ _ _ _ _ _ _ _ _ _ _ _ _ _ _ rfl (show _ = _ by omega) rfl Kl0 BF_l0 B0_l0 B1_l0 B2_l0 B3_l0 B4_l0
   ·intro k a Wl1 hk hI R hR
    rw [hJ1.out] at hI
    refine hI _ ?_
    clear hI
    intro s1 n1 n2 n4 n6 n7 n11 n12 n13 n17 n18 n19 n20 n21 n22 n23 n24 n25 n26 n27 n28 n29 n30 n31 n32 n33 n34 n35 n36 n37 n38 n39 n40 n41 n42 n43 n44 n45 n46 n47 n48 n49 n50 n51 n52 n53 n54 n55 n56 n57 n58 n59 n60 n61 n62 n63 n64 n65 n66 n67 n68 n69 n70 n71 n72 n73 n74 n75 n76 n77 n78 n79 n80 n81 n82 n83 n84 n85 n86 n87 n88 n89 n90 n91 n92 n93 n94 n95 n96 n97 n98 n99 n100 n101 n102 n103 n104 n105 n106 v1 El1 V1 ea Kl1 BF_l1 B0_l1 B1_l1 B2_l1 B3_l1 B4_l1
    subst ea
    have zl1_BF := BF_l1.lies
    have zl1_B0 := B0_l1.lies
    have zl1_B1 := B1_l1.lies
    have zl1_B2 := B2_l1.lies
    have zl1_B3 := B3_l1.lies
    have zl1_B4 := B4_l1.lies
    obtain ⟨u, hu⟩ : ∃ u, i + 1 + k = u := ⟨_, rfl⟩
    obtain rfl : v1 = (u : Int) := by have := V1.out; omega
    have Hu : i + 1 + k ≤ u ∧ u ≤ i + 1 + k ∧ u < n := by omega
    have Xu : Hid (i + 1 + k = u) := hu
    clear hu V1
    go_wp2_with fail
    refine wp_region_held_drew (S := fun w' => Arr w.heap.size (row 36 l) w' ∧ Arr (w.heap.size + 1 + 1 + 1) (row 6 s0.1) w') (by kernel_rfl) ⟨B0_l1.drew, B3_l1.drew⟩ (fun zH => ?_)
    refine zT 0 rfl (by kernel_rfl) (fun _ _ _ => id) rfl (fun _ _ => by go_simp <;> with_reducible rfl) zH ?_
    simp only [Act.put, zA, zB, zC]
    refine zT 1 rfl (by kernel_rfl) (fun _ _ _ => id) rfl (fun _ _ => by go_simp <;> with_reducible rfl) zH ?_
    simp only [Act.put, zA, zB, zC]
    refine zT 2 rfl (by kernel_rfl) (fun _ _ _ => id) rfl (fun _ _ => by go_simp <;> with_reducible rfl) zH ?_
    simp only [Act.put, zA, zB, zC]
    refine zT 3 rfl (by kernel_rfl) (fun _ _ _ => id) rfl (fun _ _ => by go_simp <;> with_reducible rfl) zH ?_
    simp only [Act.put, zA, zB, zC]
    refine zT 4 rfl (by kernel_rfl) (fun _ _ _ => id) rfl (fun _ _ => by go_simp <;> with_reducible rfl) zH ?_
    simp only [Act.put, zA, zB, zC]
    refine zT 5 rfl (by kernel_rfl) (fun _ _ _ => id) rfl (fun _ _ => by have hi0 : (u : Int) < 6 := (by omega); go_simp <;> with_reducible rfl) zH ?_
    simp only [Act.put, zA, zB, zC]
    refine zT 6 rfl (by kernel_rfl) (fun _ _ _ => id) rfl (fun _ _ => by have hi0 : (i : Int) < 6 := (by omega); go_simp <;> with_reducible rfl) zH ?_
    simp only [Act.put, zA, zB, zC]
    refine zT 7 rfl (by kernel_rfl) (fun _ _ _ => id) rfl (fun wx hS => by have hc0 : wx.cell? ⟨w.heap.size, u * 6 + i, none⟩ = some (.int .i64 (l (u * 6 + i))) := row_c hS.1 (u * 6 + i) (by omega); go_simp <;> with_reducible rfl) zH ?_
    simp only [Act.put, zA, zB, zC]
    refine zT 8 rfl (by kernel_rfl) (fun _ _ _ => id) rfl (fun _ _ => by go_simp <;> with_reducible rfl) zH ?_
    simp only [Act.put, zA, zB, zC]
    refine zT 9 rfl (by kernel_rfl) (fun _ _ _ => id) rfl (fun _ _ => by have hi0 : (u : Int) < 6 := (by omega); go_simp <;> with_reducible rfl) zH ?_
    simp only [Act.put, zA, zB, zC]
    refine zT 10 rfl (by kernel_rfl) (fun _ _ _ => id) rfl (fun wx hS => by have hc0 : wx.cell? ⟨w.heap.size + 1 + 1 + 1, u, none⟩ = some (.int .i64 (s0.1 u)) := row_c hS.2 u (by omega); go_simp <;> with_reducible rfl) zH ?_
    simp only [Act.put, zA, zB, zC]
    refine zK 11 (by kernel_rfl) rfl (fun K hK => ?_)
    go_simp
    refine (rMul_any b s1.2 (l (u * 6 + i)) (s0.1 u) _ BF_l1.drew).mono ?_
    rintro e w4 ⟨rfl, f4, k4⟩
    generalize e4 : mulS s1.2 (l (u * 6 + i)) (s0.1 u) = r4 at f4 ⊢
    have E4 : Hid _ := e4
    clear e4
    have K4 : Kept b w w4 := Kept.trans Kl1.drew k4
    have B0_4 := B0_l1.drew.kept k4 (zG y1_BF)
    have B1_4 := B1_l1.drew.kept k4 (zG y2_BF)
    have B2_4 := B2_l1.drew.kept k4 (zG y3_BF)
    have B3_4 := B3_l1.drew.kept k4 (zG y4_BF)
    have B4_4 := B4_l1.drew.kept k4 (zG y5_BF)
    have z4 := B4_4.lies
    clear zH
    refine hK.out _ _ ⟨B0_4, B3_4⟩ (fun zH => ?_)
    clear hK K BF_l1 B0_l1 B1_l1 B2_l1 B3_l1 B4_l1 k4
    refine zK 12 (by kernel_rfl) rfl (fun K hK => ?_)
    go_simp
    refine (rSub_any b r4.2 s1.1 r4.1 _ f4).mono ?_
    rintro e w5 ⟨rfl, f5, k5⟩
    generalize e5 : subS r4.2 s1.1 r4.1 = r5 at f5 ⊢
    have E5 : Hid _ := e5
    clear e5
    have K5 := Kept.trans K4 k5
    have B0_5 := B0_4.kept k5 (zG y1_BF)
    have B1_5 := B1_4.kept k5 (zG y2_BF)
    have B2_5 := B2_4.kept k5 (zG y3_BF)
    have B3_5 := B3_4.kept k5 (zG y4_BF)
    have B4_5 := B4_4.kept k5 (zG y5_BF)
    have z5 := B4_5.lies
    clear zH
    refine hK.out _ _ ⟨B0_5, B3_5⟩ (fun zH => ?_)
    clear hK K K4 f4 B0_4 B1_4 B2_4 B3_4 B4_4 k5
    refine zT 13 rfl (by kernel_rfl) (fun _ _ _ => id) rfl (fun _ _ => by go_simp <;> with_reducible rfl) zH ?_
    simp only [Act.put, zA, zB, zC]
    refine wpAnyH_done (by kernel_rfl) ?_ _
    clear zH
    go_wp2_with fail
    have hs1 : Hid (zSolveS_l1 l i s0 ((r3.1 i), s0.2) (k + 1) = (r5.1, r5.2)) := by show _ = _; unfold zSolveS_l1; simp only [Xu.out, El1.out, E4.out, E5.out]
    rw [hJ1.out]
    intro G_ hG_
    exact hG_ (r5.1, r5.2) _ _ _ _ _ _ _ _ _ _ _ _ _ _ _ _ _ _ _ _ _ _ _ _ _ _ _ _ _ _ _ _ _ _ _ _ _ _ _ _ _ _ _ _ _ _ _ _ _ _ _ _ _ _ _ _ _ _ _ _ _ _ _ _ _ _ _ _ _ _ _ _ _ _ _ _ _ _ _ _ _ _ _ _ _ _ _ _ _ _ _ _ _ _ _ _ _ _ _ hs1 (show _ = _ by omega) rfl K5 f5 B0_5 B1_5 B2_5 B3_5 B4_5
   ·intro a Wl1 hI R
    rw [hJ1.out] at hI
    refine hI _ ?_
    clear hI hJ1
    intro r6 n1 n2 n4 n6 n7 n11 n12 n13 n17 n18 n19 n20 n21 n22 n23 n24 n25 n26 n27 n28 n29 n30 n31 n32 n33 n34 n35 n36 n37 n38 n39 n40 n41 n42 n43 n44 n45 n46 n47 n48 n49 n50 n51 n52 n53 n54 n55 n56 n57 n58 n59 n60 n61 n62 n63 n64 n65 n66 n67 n68 n69 n70 n71 n72 n73 n74 n75 n76 n77 n78 n79 n80 n81 n82 n83 n84 n85 n86 n87 n88 n89 n90 n91 n92 n93 n94 n95 n96 n97 n98 n99 n100 n101 n102 n103 n104 n105 n106 v1 E6 V1 ea Kl1 BF_l1 B0_l1 B1_l1 B2_l1 B3_l1 B4_l1
    subst ea
    have zl1_BF := BF_l1.lies
    have zl1_B0 := B0_l1.lies
    have zl1_B1 := B1_l1.lies
    have zl1_B2 := B2_l1.lies
    have zl1_B3 := B3_l1.lies
    have zl1_B4 := B4_l1.lies
    obtain rfl : v1 = (n : Int) := by have := V1.out; omega
    clear V1
    have c9_B0_0 : Wl1.cell? ⟨w.heap.size, i * 6 + i, none⟩ = some (.int .i64 (l (i * 6 + i))) := row_c B0_l1 (i * 6 + i) (by omega)
    have i9_1 : (i : Int) < 6 := by omega
    go_wp2_with fail
    refine (rDiv_any b r6.2 r6.1 (l (i * 6 + i)) _ BF_l1).mono ?_
    rintro e w7 ⟨rfl, f7, k7⟩
    generalize e7 : divS r6.2 r6.1 (l (i * 6 + i)) = r7 at f7 ⊢
    have E7 : Hid _ := e7
    clear e7
    have K7 : Kept b w w7 := Kept.trans Kl1 k7
    have B0_7 := B0_l1.kept k7 (zG y1_BF)
    have B1_7 := B1_l1.kept k7 (zG y2_BF)
    have B2_7 := B2_l1.kept k7 (zG y3_BF)
    have B3_7 := B3_l1.kept k7 (zG y4_BF)
    have B4_7 := B4_l1.kept k7 (zG y5_BF)
    have z7 := B4_7.lies
    clear c9_B0_0 i9_1 BF_l1 B0_l1 B1_l1 B2_l1 B3_l1 B4_l1 k7
    have c10_B3_0 : w7.cell? ⟨w.heap.size + 1 + 1 + 1, i, none⟩ = some (.int .i64 (s0.1 i)) := row_c B3_7 i (by omega)
    have g10_B3_1 := row_f B3_7 i (by omega)
    have i10_2 : (i : Int) < 6 := by omega
    go_wp2_with fail
    clear c10_B3_0 g10_B3_1 i10_2
    have hs0 : Hid (zSolveS_l0 l n r3 ((fun _ => 0), r3.2) (d + 1) = ((updF s0.1 i r7.1), r7.2)) := by show _ = _; unfold zSolveS_l0; simp only [Xi.out, El0.out, E6.out, E7.out]
    rw [hJ0.out]
    intro G_ hG_
    exact hG_ ((updF s0.1 i r7.1), r7.2) _ _ _ _ _ _ _ _ _ _ _ _ _ _ _ _ _ _ _ _ _ _ _ _ _ _ _ _ _ _ _ _ _ _ _ _ _ _ _ _ _ _ _ _ _ _ _ _ _ _ _ _ _ _ _ _ _ _ _ _ _ _ _ _ _ _ _ _ _ _ _ _ _ _ _ _ _ _ _ _ _ _ _ _ _ _ _ _ _ _ _ _ _ _ _ _ _ _ _ _ _ hs0 (show _ = _ by omega) rfl (K7.new _ _ (by omega) _) (f7.new (w.heap.size + 1 + 1 + 1) i (zL y4_BF) (.int .i64 r7.1)) (B0_7.new (w.heap.size + 1 + 1 + 1) i (zL y4_B0) (.int .i64 r7.1)) (B1_7.new (w.heap.size + 1 + 1 + 1) i (zL y4_B1) (.int .i64 r7.1)) (B2_7.new (w.heap.size + 1 + 1 + 1) i (zL y4_B2) (.int .i64 r7.1)) (row_put B3_7 i (by omega) r7.1) (B4_7.new (w.heap.size + 1 + 1 + 1) i (zG y5_B3) (.int .i64 r7.1))
  ·intro a Wl0 hI R
   rw [hJ0.out] at hI
   refine hI _ ?_
   clear hI hJ0
   intro r4 m1 m2 m4 m6 m7 m11 m12 m13 m15 m16 m17 m18 m19 m20 m21 m22 m23 m24 m25 m26 m27 m28 m29 m30 m31 m32 m33 m34 m35 m36 m37 m38 m39 m40 m41 m42 m43 m44 m45 m46 m47 m48 m49 m50 m51 m52 m53 m54 m55 m56 m57 m58 m59 m60 m61 m62 m63 m64 m65 m66 m67 m68 m69 m70 m71 m72 m73 m74 m75 m76 m77 m78 m79 m80 m81 m82 m83 m84 m85 m86 m87 m88 m89 m90 m91 m92 m93 m94 m95 m96 m97 m98 m99 m100 m101 m102 m103 m104 m105 m106 v0 E4 V0 ea Kl0 BF_l0 B0_l0 B1_l0 B2_l0 B3_l0 B4_l0
   subst ea
   have zl0_BF := BF_l0.lies
   have zl0_B0 := B0_l0.lies
   have zl0_B1 := B1_l0.lies
   have zl0_B2 := B2_l0.lies
   have zl0_B3 := B3_l0.lies
   have zl0_B4 := B4_l0.lies
   obtain rfl : v0 = -1 := by have := V0.out; omega
   clear V0
   rcases Bool.eq_false_or_eq_true r4.2 with hc1 | hc1
   ·have Hhc1 : Hid (r4.2 = true) := hc1
    have c7_BF := BF_l0.cell
    go_wp2_with (refine store_stop rfl (by kernel_rfl) ?_)
    clear c7_BF
    refine Stop.mk (store_row (l' := row 6 (fun _ => 0)) rfl rfl rfl rfl B2_l0 (by simp only [row_len]) (by rw [row_len]; kernel_rfl) (row_one _ _) ?_)
    intro w5 B2_5 o5
    have K5 : Kept b w w5 := Kept.off Kl0 o5 (by omega)
    have BF_5 := BF_l0.off o5 (zL y3_BF)
    have B0_5 := B0_l0.off o5 (zL y3_B0)
    have B1_5 := B1_l0.off o5 (zL y3_B1)
    have B3_5 := B3_l0.off o5 (zG y4_B2)
    have B4_5 := B4_l0.off o5 (zG y5_B2)
    have z5_B2 := B2_5.lies
    have z5_BF := BF_5.lies
    have z5_B0 := B0_5.lies
    have z5_B1 := B1_5.lies
    have z5_B3 := B3_5.lies
    have z5_B4 := B4_5.lies
    clear B2_l0 BF_l0 B0_l0 B1_l0 B3_l0 B4_l0 o5
    go_wp2_with (with_reducible refine post_stop ?_)
    refine Stop.mk ?_
    refine bodyPost_ret (v := .agg (row 6 (fun _ => 0)).toArray) (results_arr Tryz.results55 B2_5 rfl (by kernel_rfl) (by rw [row_len]; kernel_rfl)) rfl ?_
    have hs : zSolveS bad l p n = ((fun _ => 0), r4.2) := by unfold zSolveS; simp only [E3.out, E4.out]; rw [if_pos Hhc1.out]
    rw [hs]
    exact ⟨rfl, BF_5, K5⟩
   ·have Hhc1 : Hid (r4.2 = false) := hc1
    have c7_BF := BF_l0.cell
    go_wp2_with (first | (refine row_load rfl rfl rfl B3_l0 (by kernel_rfl) (by rw [row_len]; kernel_rfl) ?_) | (refine store_stop rfl (by kernel_rfl) ?_))
    clear c7_BF
    refine Stop.mk (store_row (l' := row 6 r4.1) rfl rfl rfl rfl B2_l0 (by simp only [row_len]) (by rw [row_len]; kernel_rfl) (row_one _ _) ?_)
    intro w5 B2_5 o5
    have K5 : Kept b w w5 := Kept.off Kl0 o5 (by omega)
    have BF_5 := BF_l0.off o5 (zL y3_BF)
    have B0_5 := B0_l0.off o5 (zL y3_B0)
    have B1_5 := B1_l0.off o5 (zL y3_B1)
    have B3_5 := B3_l0.off o5 (zG y4_B2)
    have B4_5 := B4_l0.off o5 (zG y5_B2)
    have z5_B2 := B2_5.lies
    have z5_BF := BF_5.lies
    have z5_B0 := B0_5.lies
    have z5_B1 := B1_5.lies
    have z5_B3 := B3_5.lies
    have z5_B4 := B4_5.lies
    clear B2_l0 BF_l0 B0_l0 B1_l0 B3_l0 B4_l0 o5
    go_wp2_with (with_reducible refine post_stop ?_)
    refine Stop.mk ?_
    refine bodyPost_ret (v := .agg (row 6 r4.1).toArray) (results_arr Tryz.results55 B2_5 rfl (by kernel_rfl) (by rw [row_len]; kernel_rfl)) rfl ?_
    have hs : zSolveS bad l p n = (r4.1, r4.2) := by unfold zSolveS; simp only [E3.out, E4.out]; rw [if_neg (by rw [Hhc1.out]; decide)]
    rw [hs]
    exact ⟨rfl, BF_5, K5⟩
end Go.Proofs.YtpjobkbefgehjaaGreat
namespace Go.Proofs.YtpjobkbefgehjaaGreat
open Go.RowKit
theorem zApply_any (b : Nat) (bad : Bool) (m : Nat → Int) (p : Nat → Int) (n : Nat) (w : World) (hw : Fl b bad w) (hb : Hid (bad = false)) (h1 : 1 ≤ n) (h6 : n ≤ 6) :
  Calls Tryz.prog 57 #[.pointer (some ⟨b, 0, none⟩), .agg (row 36 m).toArray, .agg (row 6 p).toArray, .int .i64 (n : Int)] w fun e w' => e = .returned (.agg (row 6 ((zApplyS bad m p n).1)).toArray) ∧ Fl b (zApplyS bad m p n).2 w' ∧ Kept b w w' := by
 have hl := hw.lies
 go_enter Tryz.func57, Tryz.ntmps57
 have y1_BF := hw.lies
 have y2_BF : b < w.heap.size + 1 := (Nat.lt_succ_of_lt hw.lies)
 have y2_B0 : w.heap.size < w.heap.size + 1 := by omega
 have y3_BF : b < w.heap.size + 1 + 1 := (Nat.lt_succ_of_lt (Nat.lt_succ_of_lt hw.lies))
 have y3_B0 : w.heap.size < w.heap.size + 1 + 1 := by omega
 have y3_B1 : w.heap.size + 1 < w.heap.size + 1 + 1 := by omega
 have y4_BF : b < w.heap.size + 1 + 1 + 1 := (Nat.lt_succ_of_lt (Nat.lt_succ_of_lt (Nat.lt_succ_of_lt hw.lies)))
 have y4_B0 : w.heap.size < w.heap.size + 1 + 1 + 1 := by omega
 have y4_B1 : w.heap.size + 1 < w.heap.size + 1 + 1 + 1 := by omega
 have y4_B2 : w.heap.size + 1 + 1 < w.heap.size + 1 + 1 + 1 := by omega
 go_wp2_with fail
 refine (zsize_any b bad (n : Int) _ ((((hw.alloc _).alloc _).alloc _).alloc _)).mono ?_
 rintro e w1 ⟨rfl, f1, k1⟩
 rw [(size_in hb h1 h6)] at f1 ⊢
 dsimp only at f1 ⊢
 have K1 : Kept b w w1 := Kept.trans (((((Kept.refl b w).al _).al _).al _).al _) k1
 have B0_1 := ((((Arr_at _ w.heap.size (row 36 m) _ (by simp)).alloc _).alloc _).alloc _).kept k1 (zG y1_BF)
 have B1_1 := (((Arr_at _ (w.heap.size + 1) (row 6 p) _ (by simp)).alloc _).alloc _).kept k1 (zG y2_BF)
 have B2_1 := ((Arr_at _ (w.heap.size + 1 + 1) [.int .i64 0, .int .i64 0, .int .i64 0, .int .i64 0, .int .i64 0, .int .i64 0] _ (by simp)).alloc _).kept k1 (zG y3_BF)
 have B3_1 := (Arr_at _ (w.heap.size + 1 + 1 + 1) [.int .i64 0, .int .i64 0, .int .i64 0, .int .i64 0, .int .i64 0, .int .i64 0] _ (by simp)).kept k1 (zG y4_BF)
 have z1 := B3_1.lies
 clear k1
 go_wp2_with fail
 obtain ⟨J0, hJ0⟩ : ∃ J : Nat → Act → World → Prop, Hid (J = fun i a Wl0 => ∀ G_ : Prop, (∀ (s0 : (Nat → Int) × Bool) (m1 m2 m4 m7 m11 m12 m13 m14 m15 m16 m17 m18 m19 m20 m21 m22 m23 m24 m25 m26 m27 m28 m29 m30 m31 m32 m33 m34 m35 m36 m37 m38 m39 m40 m41 m42 m43 m44 m45 m46 m47 m48 m49 m50 : Value), Hid (zApplyS_l0 m p n ((fun _ => 0), bad) i = s0) → a = { tmps := #[.pointer (some ⟨b, 0, none⟩), m1, m2, .int .i64 (n : Int), m4, .pointer (some ⟨w.heap.size, 0, none⟩), .pointer (some ⟨w.heap.size + 1, 0, none⟩), m7, .pointer (some ⟨w.heap.size + 1 + 1, 0, none⟩), .pointer (some ⟨w.heap.size + 1 + 1 + 1, 0, none⟩), .int .i64 (i : Int), m11, m12, m13, m14, m15, m16, m17, m18, m19, m20, m21, m22, m23, m24, m25, m26, m27, m28, m29, m30, m31, m32, m33, m34, m35, m36, m37, m38, m39, m40, m41, m42, m43, m44, m45, m46, m47, m48, m49, m50], defers := [] } → Kept b w Wl0 → Fl b s0.2 Wl0 → Arr w.heap.size (row 36 m) Wl0 → Arr (w.heap.size + 1) (row 6 p) Wl0 → Arr (w.heap.size + 1 + 1) (row 6 (fun _ => 0)) Wl0 → Arr (w.heap.size + 1 + 1 + 1) (row 6 s0.1) Wl0 → G_) → G_) := ⟨_, rfl⟩
 refine rounds_up J0 n ?_ ?_ ?_
 ·rw [hJ0.out]
  intro G_ hG_
  exact hG_ ((fun _ => 0), bad) _ _ _ _ _ _ _ _ _ _ _ _ _ _ _ _ _ _ _ _ _ _ _ _ _ _ _ _ _ _ _ _ _ _ _ _ _ _ _ _ _ _ _ _ rfl rfl K1 f1 B0_1 B1_1 B2_1 B3_1
 ·intro i a Wl0 hi hI R hR
  rw [hJ0.out] at hI
  refine hI _ ?_
  clear hI
  intro s0 m1 m2 m4 m7 m11 m12 m13 m14 m15 m16 m17 m18 m19 m20 m21 m22 m23 m24 m25 m26 m27 m28 m29 m30 m31 m32 m33 m34 m35 m36 m37 m38 m39 m40 m41 m42 m43 m44 m45 m46 m47 m48 m49 m50 El0 ea Kl0 BF_l0 B0_l0 B1_l0 B2_l0 B3_l0
  subst ea
  have zl0_BF := BF_l0.lies
  have zl0_B0 := B0_l0.lies
  have zl0_B1 := B1_l0.lies
  have zl0_B2 := B2_l0.lies
  have zl0_B3 := B3_l0.lies
  go_wp2_with fail
  obtain ⟨J1, hJ1⟩ : ∃ J : Nat → Act → World → Prop, Hid (J = fun k a Wl1 => ∀ G_ : Prop, (∀ (s1 : Int × Bool) (n1 n2 n4 n7 n13 n14 n15 n16 n17 n18 n19 n20 n21 n22 n23 n24 n25 n26 n27 n28 n29 n30 n31 n32 n33 n34 n35 n36 n37 n38 n39 n40 n41 n42 n43 n44 n45 n46 n47 n48 n49 n50 : Value), Hid (zApplyS_l1 m p i (0, s0.2) k = s1) → a = { tmps := #[.pointer (some ⟨b, 0, none⟩), n1, n2, .int .i64 (n : Int), n4, .pointer (some ⟨w.heap.size, 0, none⟩), .pointer (some ⟨w.heap.size + 1, 0, none⟩), n7, .pointer (some ⟨w.heap.size + 1 + 1, 0, none⟩), .pointer (some ⟨w.heap.size + 1 + 1 + 1, 0, none⟩), .int .i64 (i : Int), .int .i64 s1.1, .int .i64 (k : Int), n13, n14, n15, n16, n17, n18, n19, n20, n21, n22, n23, n24, n25, n26, n27, n28, n29, n30, n31, n32, n33, n34, n35, n36, n37, n38, n39, n40, n41, n42, n43, n44, n45, n46, n47, n48, n49, n50], defers := [] } → Kept b w Wl1 → Fl b s1.2 Wl1 → Arr w.heap.size (row 36 m) Wl1 → Arr (w.heap.size + 1) (row 6 p) Wl1 → Arr (w.heap.size + 1 + 1) (row 6 (fun _ => 0)) Wl1 → Arr (w.heap.size + 1 + 1 + 1) (row 6 s0.1) Wl1 → G_) → G_) := ⟨_, rfl⟩
  refine rounds_up J1 n ?_ ?_ ?_
  ·rw [hJ1.out]
   intro G_ hG_
   exact hG_ (0, s0.2) _ _ _ _ _ _ _ _ _ _ _ _ _ _ _ _ _ _ _ _ _ _ _ _ _ _ _ _ _ _ _ _ _ _ _ _ _ _ _ _ _ _ rfl rfl Kl0 BF_l0 B0_l0 B1_l0 B2_l0 B3_l0
  ·intro k a Wl1 hk hI R hR
   rw [hJ1.out] at hI
   refine hI _ ?_
   clear hI
   intro s1 n1 n2 n4 n7 n13 n14 n15 n16 n17 n18 n19 n20 n21 n22 n23 n24 n25 n26 n27 n28 n29 n30 n31 n32 n33 n34 n35 n36 n37 n38 n39 n40 n41 n42 n43 n44 n45 n46 n47 n48 n49 n50 El1 ea Kl1 BF_l1 B0_l1 B1_l1 B2_l1 B3_l1
   subst ea
   have zl1_BF := BF_l1.lies
   have zl1_B0 := B0_l1.lies
   have zl1_B1 := B1_l1.lies
   have zl1_B2 := B2_l1.lies
   have zl1_B3 := B3_l1.lies
   go_wp2_with fail
   refine wp_region_held_drew (S := fun w' => Arr w.heap.size (row 36 m) w' ∧ Arr (w.heap.size + 1) (row 6 p) w') (by kernel_rfl) ⟨B0_l1.drew, B1_l1.drew⟩ (fun zH => ?_)
   refine zT 0 rfl (by kernel_rfl) (fun _ _ _ => id) rfl (fun _ _ => by go_simp <;> with_reducible rfl) zH ?_
   simp only [Act.put, zA, zB, zC]
   refine zT 1 rfl (by kernel_rfl) (fun _ _ _ => id) rfl (fun _ _ => by go_simp <;> with_reducible rfl) zH ?_
   simp only [Act.put, zA, zB, zC]
   refine zT 2 rfl (by kernel_rfl) (fun _ _ _ => id) rfl (fun _ _ => by go_simp <;> with_reducible rfl) zH ?_
   simp only [Act.put, zA, zB, zC]
   refine zT 3 rfl (by kernel_rfl) (fun _ _ _ => id) rfl (fun _ _ => by go_simp <;> with_reducible rfl) zH ?_
   simp only [Act.put, zA, zB, zC]
   refine zT 4 rfl (by kernel_rfl) (fun _ _ _ => id) rfl (fun _ _ => by go_simp <;> with_reducible rfl) zH ?_
   simp only [Act.put, zA, zB, zC]
   refine zT 5 rfl (by kernel_rfl) (fun _ _ _ => id) rfl (fun _ _ => by have hi0 : (i : Int) < 6 := (by omega); go_simp <;> with_reducible rfl) zH ?_
   simp only [Act.put, zA, zB, zC]
   refine zT 6 rfl (by kernel_rfl) (fun _ _ _ => id) rfl (fun _ _ => by have hi0 : (k : Int) < 6 := (by omega); go_simp <;> with_reducible rfl) zH ?_
   simp only [Act.put, zA, zB, zC]
   refine zT 7 rfl (by kernel_rfl) (fun _ _ _ => id) rfl (fun wx hS => by have hc0 : wx.cell? ⟨w.heap.size, i * 6 + k, none⟩ = some (.int .i64 (m (i * 6 + k))) := row_c hS.1 (i * 6 + k) (by omega); go_simp <;> with_reducible rfl) zH ?_
   simp only [Act.put, zA, zB, zC]
   refine zT 8 rfl (by kernel_rfl) (fun _ _ _ => id) rfl (fun _ _ => by go_simp <;> with_reducible rfl) zH ?_
   simp only [Act.put, zA, zB, zC]
   refine zT 9 rfl (by kernel_rfl) (fun _ _ _ => id) rfl (fun _ _ => by have hi0 : (k : Int) < 6 := (by omega); go_simp <;> with_reducible rfl) zH ?_
   simp only [Act.put, zA, zB, zC]
   refine zT 10 rfl (by kernel_rfl) (fun _ _ _ => id) rfl (fun wx hS => by have hc0 : wx.cell? ⟨w.heap.size + 1, k, none⟩ = some (.int .i64 (p k)) := row_c hS.2 k (by omega); go_simp <;> with_reducible rfl) zH ?_
   simp only [Act.put, zA, zB, zC]
   refine zK 11 (by kernel_rfl) rfl (fun K hK => ?_)
   go_simp
   refine (rMul_any b s1.2 (m (i * 6 + k)) (p k) _ BF_l1.drew).mono ?_
   rintro e w2 ⟨rfl, f2, k2⟩
   generalize e2 : mulS s1.2 (m (i * 6 + k)) (p k) = r2 at f2 ⊢
   have E2 : Hid _ := e2
   clear e2
   have K2 : Kept b w w2 := Kept.trans Kl1.drew k2
   have B0_2 := B0_l1.drew.kept k2 (zG y1_BF)
   have B1_2 := B1_l1.drew.kept k2 (zG y2_BF)
   have B2_2 := B2_l1.drew.kept k2 (zG y3_BF)
   have B3_2 := B3_l1.drew.kept k2 (zG y4_BF)
   have z2 := B3_2.lies
   clear zH
   refine hK.out _ _ ⟨B0_2, B1_2⟩ (fun zH => ?_)
   clear hK K BF_l1 B0_l1 B1_l1 B2_l1 B3_l1 k2
   refine zK 12 (by kernel_rfl) rfl (fun K hK => ?_)
   go_simp
   refine (rAdd_any b r2.2 s1.1 r2.1 _ f2).mono ?_
   rintro e w3 ⟨rfl, f3, k3⟩
   generalize e3 : addS r2.2 s1.1 r2.1 = r3 at f3 ⊢
   have E3 : Hid _ := e3
   clear e3
   have K3 := Kept.trans K2 k3
   have B0_3 := B0_2.kept k3 (zG y1_BF)
   have B1_3 := B1_2.kept k3 (zG y2_BF)
   have B2_3 := B2_2.kept k3 (zG y3_BF)
   have B3_3 := B3_2.kept k3 (zG y4_BF)
   have z3 := B3_3.lies
   clear zH
   refine hK.out _ _ ⟨B0_3, B1_3⟩ (fun zH => ?_)
   clear hK K K2 f2 B0_2 B1_2 B2_2 B3_2 k3
   refine zT 13 rfl (by kernel_rfl) (fun _ _ _ => id) rfl (fun _ _ => by go_simp <;> with_reducible rfl) zH ?_
   simp only [Act.put, zA, zB, zC]
   refine wpAnyH_done (by kernel_rfl) ?_ _
   clear zH
   go_wp2_with fail
   have hs1 : Hid (zApplyS_l1 m p i (0, s0.2) (k + 1) = (r3.1, r3.2)) := by show _ = _; unfold zApplyS_l1; simp only [El1.out, E2.out, E3.out]
   rw [hJ1.out]
   intro G_ hG_
   exact hG_ (r3.1, r3.2) _ _ _ _ _ _ _ _ _ _ _ _ _ _ _ _ _ _ _ _ _ _ _ _ _ _ _ _ _ _ _ _ _ _ _ _ _ _ _ _ _ _ hs1 rfl K3 f3 B0_3 B1_3 B2_3 B3_3
  ·intro a Wl1 hI R
   rw [hJ1.out] at hI
   refine hI _ ?_
   clear hI hJ1
   intro r4 n1 n2 n4 n7 n13 n14 n15 n16 n17 n18 n19 n20 n21 n22 n23 n24 n25 n26 n27 n28 n29 n30 n31 n32 n33 n34 n35 n36 n37 n38 n39 n40 n41 n42 n43 n44 n45 n46 n47 n48 n49 n50 E4 ea Kl1 BF_l1 B0_l1 B1_l1 B2_l1 B3_l1
   subst ea
   have zl1_BF := BF_l1.lies
   have zl1_B0 := B0_l1.lies
   have zl1_B1 := B1_l1.lies
   have zl1_B2 := B2_l1.lies
   have zl1_B3 := B3_l1.lies
   have c6_B3_0 : Wl1.cell? ⟨w.heap.size + 1 + 1 + 1, i, none⟩ = some (.int .i64 (s0.1 i)) := row_c B3_l1 i (by omega)
   have g6_B3_1 := row_f B3_l1 i (by omega)
   have i6_2 : (i : Int) < 6 := by omega
   go_wp2_with fail
   clear c6_B3_0 g6_B3_1 i6_2
   have hs0 : Hid (zApplyS_l0 m p n ((fun _ => 0), bad) (i + 1) = ((updF s0.1 i r4.1), r4.2)) := by show _ = _; unfold zApplyS_l0; simp only [El0.out, E4.out]
   rw [hJ0.out]
   intro G_ hG_
   exact hG_ ((updF s0.1 i r4.1), r4.2) _ _ _ _ _ _ _ _ _ _ _ _ _ _ _ _ _ _ _ _ _ _ _ _ _ _ _ _ _ _ _ _ _ _ _ _ _ _ _ _ _ _ _ _ hs0 rfl (Kl1.new _ _ (by omega) _) (BF_l1.new (w.heap.size + 1 + 1 + 1) i (zL y4_BF) (.int .i64 r4.1)) (B0_l1.new (w.heap.size + 1 + 1 + 1) i (zL y4_B0) (.int .i64 r4.1)) (B1_l1.new (w.heap.size + 1 + 1 + 1) i (zL y4_B1) (.int .i64 r4.1)) (B2_l1.new (w.heap.size + 1 + 1 + 1) i (zL y4_B2) (.int .i64 r4.1)) (row_put B3_l1 i (by omega) r4.1)
 ·intro a Wl0 hI R
  rw [hJ0.out] at hI
  refine hI _ ?_
  clear hI hJ0
  intro r2 m1 m2 m4 m7 m11 m12 m13 m14 m15 m16 m17 m18 m19 m20 m21 m22 m23 m24 m25 m26 m27 m28 m29 m30 m31 m32 m33 m34 m35 m36 m37 m38 m39 m40 m41 m42 m43 m44 m45 m46 m47 m48 m49 m50 E2 ea Kl0 BF_l0 B0_l0 B1_l0 B2_l0 B3_l0
  subst ea
  have zl0_BF := BF_l0.lies
  have zl0_B0 := B0_l0.lies
  have zl0_B1 := B1_l0.lies
  have zl0_B2 := B2_l0.lies
  have zl0_B3 := B3_l0.lies
  rcases Bool.eq_false_or_eq_true r2.2 with hc1 | hc1
  ·have Hhc1 : Hid (r2.2 = true) := hc1
   have c4_BF := BF_l0.cell
   go_wp2_with (refine store_stop rfl (by kernel_rfl) ?_)
   clear c4_BF
   refine Stop.mk (store_row (l' := row 6 (fun _ => 0)) rfl rfl rfl rfl B2_l0 (by simp only [row_len]) (by rw [row_len]; kernel_rfl) (row_one _ _) ?_)
   intro w3 B2_3 o3
   have K3 : Kept b w w3 := Kept.off Kl0 o3 (by omega)
   have BF_3 := BF_l0.off o3 (zL y3_BF)
   have B0_3 := B0_l0.off o3 (zL y3_B0)
   have B1_3 := B1_l0.off o3 (zL y3_B1)
   have B3_3 := B3_l0.off o3 (zG y4_B2)
   have z3_B2 := B2_3.lies
   have z3_BF := BF_3.lies
   have z3_B0 := B0_3.lies
   have z3_B1 := B1_3.lies
   have z3_B3 := B3_3.lies
   clear B2_l0 BF_l0 B0_l0 B1_l0 B3_l0 o3
   go_wp2_with (with_reducible refine post_stop ?_)
   refine Stop.mk ?_
   refine bodyPost_ret (v := .agg (row 6 (fun _ => 0)).toArray) (results_arr Tryz.results57 B2_3 rfl (by kernel_rfl) (by rw [row_len]; kernel_rfl)) rfl ?_
   have hs : zApplyS bad m p n = ((fun _ => 0), r2.2) := by unfold zApplyS; simp only [E2.out]; rw [if_pos Hhc1.out]
   rw [hs]
   exact ⟨rfl, BF_3, K3⟩
  ·have Hhc1 : Hid (r2.2 = false) := hc1
   have c4_BF := BF_l0.cell
   go_wp2_with (first | (refine row_load rfl rfl rfl B3_l0 (by kernel_rfl) (by rw [row_len]; kernel_rfl) ?_) | (refine store_stop rfl (by kernel_rfl) ?_))
   clear c4_BF
   refine Stop.mk (store_row (l' := row 6 r2.1) rfl rfl rfl rfl B2_l0 (by simp only [row_len]) (by rw [row_len]; kernel_rfl) (row_one _ _) ?_)
   intro w3 B2_3 o3
   have K3 : Kept b w w3 := Kept.off Kl0 o3 (by omega)
   have BF_3 := BF_l0.off o3 (zL y3_BF)
   have B0_3 := B0_l0.off o3 (zL y3_B0)
   have B1_3 := B1_l0.off o3 (zL y3_B1)
   have B3_3 := B3_l0.off o3 (zG y4_B2)
   have z3_B2 := B2_3.lies
   have z3_BF := BF_3.lies
   have z3_B0 := B0_3.lies
   have z3_B1 := B1_3.lies
   have z3_B3 := B3_3.lies
   clear B2_l0 BF_l0 B0_l0 B1_l0 B3_l0 o3
   go_wp2_with (with_reducible refine post_stop ?_)
   refine Stop.mk ?_
   refine bodyPost_ret (v := .agg (row 6 r2.1).toArray) (results_arr Tryz.results57 B2_3 rfl (by kernel_rfl) (by rw [row_len]; kernel_rfl)) rfl ?_
   have hs : zApplyS bad m p n = (r2.1, r2.2) := by unfold zApplyS; simp only [E2.out]; rw [if_neg (by rw [Hhc1.out]; decide)]
   rw [hs]
   exact ⟨rfl, BF_3, K3⟩
end Go.Proofs.YtpjobkbefgehjaaGreat
namespace Go.Proofs.YtpjobkbefgehjaaGreat
open Go.RowKit
theorem zRoot6_any (b : Nat) (bad : Bool) (m : Nat → Int) (w : World) (hw : Fl b bad w) :
  Calls Tryz.prog 54 #[.pointer (some ⟨b, 0, none⟩), .agg (row 36 m).toArray, .int .i64 6] w fun e w' => e = .returned (.agg (row 36 (zRoot6 bad m).1).toArray) ∧ Fl b (zRoot6 bad m).2 w' ∧ Kept b w w' := by
 cases bad
 ·rw [zRoot6_good]
  exact zRoot_any b false m 6 w hw rfl (by omega) (by omega)
 ·exact zRootN_any b true m 6 w hw (size_bad 6)
theorem zSolve6_any (b : Nat) (bad : Bool) (l : Nat → Int) (p : Nat → Int) (w : World) (hw : Fl b bad w) :
  Calls Tryz.prog 55 #[.pointer (some ⟨b, 0, none⟩), .agg (row 36 l).toArray, .agg (row 6 p).toArray, .int .i64 6] w fun e w' => e = .returned (.agg (row 6 (zSolve6 bad l p).1).toArray) ∧ Fl b (zSolve6 bad l p).2 w' ∧ Kept b w w' := by
 cases bad
 ·rw [zSolve6_good]
  exact zSolve_any b false l p 6 w hw rfl (by omega) (by omega)
 ·exact zSolveN_any b true l p 6 w hw (size_bad 6)
theorem zApply6_any (b : Nat) (bad : Bool) (m : Nat → Int) (p : Nat → Int) (w : World) (hw : Fl b bad w) :
  Calls Tryz.prog 57 #[.pointer (some ⟨b, 0, none⟩), .agg (row 36 m).toArray, .agg (row 6 p).toArray, .int .i64 6] w fun e w' => e = .returned (.agg (row 6 (zApply6 bad m p).1).toArray) ∧ Fl b (zApply6 bad m p).2 w' ∧ Kept b w w' := by
 cases bad
 ·rw [zApply6_good]
  exact zApply_any b false m p 6 w hw rfl (by omega) (by omega)
 ·exact zApplyN_any b true m p 6 w hw (size_bad 6)
end Go.Proofs.YtpjobkbefgehjaaGreat
