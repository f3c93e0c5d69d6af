/-
  The reference's k, for the seat YtmhcfkcpoecokaaDoor. (Made by mkfield.py.)
  The reference's tables, walked at each degree and order, for the seat YtmhcfkcpoecokaaDoor.
  The walks of the reference's Number, where the model has one, for the seat YtmhcfkcpoecokaaDoor. (Made by mkfield.py.)
  The walks of the reference's Number, where the model has none, for the seat YtmhcfkcpoecokaaDoor. (Made by mkfield.py.)
  What the reference's Number answers, at all integers, for the seat YtmhcfkcpoecokaaDoor.
  The walks of the reference's Earth, where it has no answer, for the seat YtmhcfkcpoecokaaDoor. (Made by mkfield.py.)
-/
import Derived.Test.YtmhcfkcpoecokaaDoorJB
import Derived.Test.YtmhcfkcpoecokaaDoorJG
import Derived.Test.YtmhcfkcpoecokaaDoorJE
import Derived.Test.YtmhcfkcpoecokaaDoorJH
import Derived.Handy
import Derived.Deep.RegionHeld3
namespace Go.Proofs.YtmhcfkcpoecokaaDoor
open Go.RowKit

set_option maxRecDepth 100000 in
set_option maxHeartbeats 2000000 in
theorem rk_w (b : Nat) (bad : Bool) (n : Int) (m : Int) (w : World) (hw : Fl b bad w) (a0 : 0 ≤ n * n) (a6 : n * n ≤ 36) (b0 : 0 ≤ m * m) (b6 : m * m ≤ 36) :
    Calls Tryd.prog 65 #[.pointer (some ⟨b, 0, none⟩), .int .i64 n, .int .i64 m] w fun e w' => e = .returned (.int .i64 ((rootS bad n m).1)) ∧ Fl b (rootS bad n m).2 w' ∧ Kept b w w' := by
  have hl := hw.lies
  go_enter Tryd.func65, Tryd.ntmps65
  go_wp2_with fail
  refine (rSqrt_any b bad (((n * n) - (m * m)) * 1099511627776) _ hw).mono ?_
  rintro e w1 ⟨rfl, f1, k1⟩
  generalize e1 : sqrtS bad (((n * n) - (m * m)) * 1099511627776) = r1 at f1 ⊢
  have E1 : Hid _ := e1
  clear e1
  have K1 : Kept b w w1 := Kept.trans (Kept.refl b w) k1
  have z1 := K1.size
  clear k1
  go_wp2
  go_ret
  have hs : rootS bad n m = (r1.1, r1.2) := by unfold rootS; simp only [E1.out]
  rw [hs]
  exact ⟨rfl, f1, K1⟩
theorem rk_any (b : Nat) (bad : Bool) (n m : Int) (w : World) (hw : Fl b bad w) (n0 : 0 ≤ n) (n6 : n ≤ 6) (m0 : 0 ≤ m) (m6 : m ≤ 6) :
    Calls Tryd.prog 65 #[.pointer (some ⟨b, 0, none⟩), .int .i64 n, .int .i64 m] w fun e w' => e = .returned (.int .i64 (rootS bad n m).1) ∧ Fl b (rootS bad n m).2 w' ∧ Kept b w w' := by
  have a := Int.mul_nonneg n0 n0; have a' := Int.mul_le_mul n6 n6 n0 (by decide)
  have c := Int.mul_nonneg m0 m0; have c' := Int.mul_le_mul m6 m6 m0 (by decide)
  exact rk_w b bad n m w hw (by omega) (by omega) (by omega) (by omega)
end Go.Proofs.YtmhcfkcpoecokaaDoor
namespace Go.Proofs.YtmhcfkcpoecokaaDoor
open Go.RowKit

set_option maxRecDepth 100000 in
set_option maxHeartbeats 4000000 in
theorem table_at (N M : Nat) (w : World) (h1 : 1 ≤ N) (h6 : N ≤ 6) (hm : M ≤ N) : Calls Tryd.prog 25 #[.int .i64 (N : Int), .int .i64 (M : Int)] w fun e w' => e = .returned (.tuple #[.int .i64 (at0 (nIdx N M * 2)), .int .i64 (at0 (nIdx N M * 2 + 1))]) ∧ Below w.heap.size w w' := by
  obtain ⟨x, hx⟩ : ∃ x, Hid (x = at0 (nIdx N M * 2)) := ⟨_, rfl⟩
  obtain ⟨y, hy⟩ : ∃ y, Hid (y = at0 (nIdx N M * 2 + 1)) := ⟨_, rfl⟩
  rw [← hx.out, ← hy.out]
  have c : (N = 1 ∧ (M = 0 ∨ M = 1)) ∨ (N = 2 ∧ (M = 0 ∨ M = 1 ∨ M = 2)) ∨ (N = 3 ∧ (M = 0 ∨ M = 1 ∨ M = 2 ∨ M = 3)) ∨ (N = 4 ∧ (M = 0 ∨ M = 1 ∨ M = 2 ∨ M = 3 ∨ M = 4)) ∨ (N = 5 ∧ (M = 0 ∨ M = 1 ∨ M = 2 ∨ M = 3 ∨ M = 4 ∨ M = 5)) ∨ (N = 6 ∧ (M = 0 ∨ M = 1 ∨ M = 2 ∨ M = 3 ∨ M = 4 ∨ M = 5 ∨ M = 6)) := by omega
  rcases c with ⟨rfl, rfl | rfl⟩ | ⟨rfl, rfl | rfl | rfl⟩ | ⟨rfl, rfl | rfl | rfl | rfl⟩ | ⟨rfl, rfl | rfl | rfl | rfl | rfl⟩ | ⟨rfl, rfl | rfl | rfl | rfl | rfl | rfl⟩ | ⟨rfl, rfl | rfl | rfl | rfl | rfl | rfl | rfl⟩
  all_goals
    go_enter Tryd.func25, Tryd.ntmps25
    go_wp2
    refine bodyPost_ret (v := .tuple #[.int .i64 x, .int .i64 y]) (by rw [hx.out, hy.out]; simp [results, Tryd.results25, go_sem, at0, at0L, nIdx]) rfl ?_
    exact ⟨rfl, Below.refl _ _⟩
set_option maxRecDepth 100000 in
set_option maxHeartbeats 4000000 in
theorem yearly_at (N M : Nat) (w : World) (h1 : 1 ≤ N) (h2 : N ≤ 2) (hm : M ≤ N) : Calls Tryd.prog 28 #[.int .i64 (N : Int), .int .i64 (M : Int)] w fun e w' => e = .returned (.tuple #[.int .i64 (yr0 (nIdx N M * 2)), .int .i64 (yr0 (nIdx N M * 2 + 1))]) ∧ Below w.heap.size w w' := by
  obtain ⟨x, hx⟩ : ∃ x, Hid (x = yr0 (nIdx N M * 2)) := ⟨_, rfl⟩
  obtain ⟨y, hy⟩ : ∃ y, Hid (y = yr0 (nIdx N M * 2 + 1)) := ⟨_, rfl⟩
  rw [← hx.out, ← hy.out]
  have c : (N = 1 ∧ (M = 0 ∨ M = 1)) ∨ (N = 2 ∧ (M = 0 ∨ M = 1 ∨ M = 2)) := by omega
  rcases c with ⟨rfl, rfl | rfl⟩ | ⟨rfl, rfl | rfl | rfl⟩
  all_goals
    go_enter Tryd.func28, Tryd.ntmps28
    go_wp2
    refine bodyPost_ret (v := .tuple #[.int .i64 x, .int .i64 y]) (by rw [hx.out, hy.out]; simp [results, Tryd.results28, go_sem, yr0, yr0L, nIdx]) rfl ?_
    exact ⟨rfl, Below.refl _ _⟩
end Go.Proofs.YtmhcfkcpoecokaaDoor
namespace Go.Proofs.YtmhcfkcpoecokaaDoor
open Go.RowKit

set_option maxRecDepth 100000 in
set_option maxHeartbeats 4000000 in
theorem rnum_hi (b : Nat) (N M : Nat) (t d g0 h0 : Int) (w : World) (hw : Fl b false w) (h1_ : 1 ≤ N) (h6 : N ≤ 6) (hm : M ≤ N) (hd : cDaysS false t = (d, false)) (hg : partS false 1099511627776 (at0 (nIdx N M * 2)) 10000 = (g0, false)) (hh : partS false 1099511627776 (at0 (nIdx N M * 2 + 1)) 10000 = (h0, false)) (h2_ : ¬ N ≤ 2) :
    Calls Tryd.prog 10 #[.pointer (some ⟨b, 0, none⟩), .int .i64 (N : Int), .int .i64 (M : Int), .int .i64 t] w fun e w' => e = .returned (.tuple #[.int .i64 g0, .int .i64 h0]) ∧ Fl b false w' ∧ Kept b w w' := by
  have hl := hw.lies
  go_enter Tryd.func10, Tryd.ntmps10
  go_wp2_with fail
  refine (dDays_any b false t _ hw).mono ?_
  rintro e w1 ⟨rfl, f1, k1⟩
  rw [hd] at f1 ⊢
  dsimp only at f1 ⊢
  have K1 : Kept b w w1 := Kept.trans (Kept.refl b w) k1
  have z1 := K1.size
  clear k1
  have c2_BF := f1.cell
  go_wp2_with fail
  refine (table_at N M _ (by omega) (by omega) (by omega)).mono ?_
  rintro e w2 ⟨rfl, k2⟩
  have K2 : Kept b w w2 := Kept.trans K1 (Kept.of_below k2)
  have BF_2 : Fl b false w2 := f1.below k2
  have z2 := K2.size
  clear c2_BF K1 f1 k2
  go_wp2_with fail
  refine (rPart_any b false 1099511627776 (at0 (nIdx N M * 2)) 10000 _ BF_2).mono ?_
  rintro e w3 ⟨rfl, f3, k3⟩
  rw [hg] at f3 ⊢
  dsimp only at f3 ⊢
  have K3 : Kept b w w3 := Kept.trans K2 k3
  have z3 := K3.size
  clear K2 BF_2 k3
  go_wp2_with fail
  refine (rPart_any b false 1099511627776 (at0 (nIdx N M * 2 + 1)) 10000 _ f3).mono ?_
  rintro e w4 ⟨rfl, f4, k4⟩
  rw [hh] at f4 ⊢
  dsimp only at f4 ⊢
  have K4 : Kept b w w4 := Kept.trans K3 k4
  have z4 := K4.size
  clear K3 f3 k4
  go_wp2
  refine bodyPost_ret (v := .tuple #[.int .i64 g0, .int .i64 h0]) (by simp [results, Tryd.results10, go_sem]) rfl ?_
  exact ⟨rfl, f4, K4⟩
set_option maxRecDepth 100000 in
set_option maxHeartbeats 4000000 in
theorem rnum_lo (b : Nat) (N M : Nat) (t d g0 h0 y g1 h1 x1 x2 g2 h2 : Int) (w : World) (hw : Fl b false w) (h1_ : 1 ≤ N) (h6 : N ≤ 6) (hm : M ≤ N) (hd : cDaysS false t = (d, false)) (hg : partS false 1099511627776 (at0 (nIdx N M * 2)) 10000 = (g0, false)) (hh : partS false 1099511627776 (at0 (nIdx N M * 2 + 1)) 10000 = (h0, false)) (h2_ : N ≤ 2) (hy : divS false d 401596622045184 = (y, false)) (hgy : partS false 1099511627776 (yr0 (nIdx N M * 2)) 10000 = (g1, false)) (hhy : partS false 1099511627776 (yr0 (nIdx N M * 2 + 1)) 10000 = (h1, false)) (hmg : mulS false y g1 = (x1, false)) (hmh : mulS false y h1 = (x2, false)) (hag : addS false g0 x1 = (g2, false)) (hah : addS false h0 x2 = (h2, false)) :
    Calls Tryd.prog 10 #[.pointer (some ⟨b, 0, none⟩), .int .i64 (N : Int), .int .i64 (M : Int), .int .i64 t] w fun e w' => e = .returned (.tuple #[.int .i64 g2, .int .i64 h2]) ∧ Fl b false w' ∧ Kept b w w' := by
  have hl := hw.lies
  go_enter Tryd.func10, Tryd.ntmps10
  go_wp2_with fail
  refine (dDays_any b false t _ hw).mono ?_
  rintro e w1 ⟨rfl, f1, k1⟩
  rw [hd] at f1 ⊢
  dsimp only at f1 ⊢
  have K1 : Kept b w w1 := Kept.trans (Kept.refl b w) k1
  have z1 := K1.size
  clear k1
  have c2_BF := f1.cell
  go_wp2_with fail
  refine (table_at N M _ (by omega) (by omega) (by omega)).mono ?_
  rintro e w2 ⟨rfl, k2⟩
  have K2 : Kept b w w2 := Kept.trans K1 (Kept.of_below k2)
  have BF_2 : Fl b false w2 := f1.below k2
  have z2 := K2.size
  clear c2_BF K1 f1 k2
  go_wp2_with fail
  refine (rPart_any b false 1099511627776 (at0 (nIdx N M * 2)) 10000 _ BF_2).mono ?_
  rintro e w3 ⟨rfl, f3, k3⟩
  rw [hg] at f3 ⊢
  dsimp only at f3 ⊢
  have K3 : Kept b w w3 := Kept.trans K2 k3
  have z3 := K3.size
  clear K2 BF_2 k3
  go_wp2_with fail
  refine (rPart_any b false 1099511627776 (at0 (nIdx N M * 2 + 1)) 10000 _ f3).mono ?_
  rintro e w4 ⟨rfl, f4, k4⟩
  rw [hh] at f4 ⊢
  dsimp only at f4 ⊢
  have K4 : Kept b w w4 := Kept.trans K3 k4
  have z4 := K4.size
  clear K3 f3 k4
  go_wp2_with fail
  refine (rDiv_any b false d 401596622045184 _ f4).mono ?_
  rintro e w5 ⟨rfl, f5, k5⟩
  rw [hy] at f5 ⊢
  dsimp only at f5 ⊢
  have K5 : Kept b w w5 := Kept.trans K4 k5
  have z5 := K5.size
  clear K4 f4 k5
  go_wp2_with fail
  refine (yearly_at N M _ (by omega) (by omega) (by omega)).mono ?_
  rintro e w6 ⟨rfl, k6⟩
  have K6 : Kept b w w6 := Kept.trans K5 (Kept.of_below k6)
  have BF_6 : Fl b false w6 := f5.below k6
  have z6 := K6.size
  clear K5 f5 k6
  go_wp2_with fail
  refine (rPart_any b false 1099511627776 (yr0 (nIdx N M * 2)) 10000 _ BF_6).mono ?_
  rintro e w7 ⟨rfl, f7, k7⟩
  rw [hgy] at f7 ⊢
  dsimp only at f7 ⊢
  have K7 : Kept b w w7 := Kept.trans K6 k7
  have z7 := K7.size
  clear K6 BF_6 k7
  go_wp2_with fail
  refine (rMul_any b false y g1 _ f7).mono ?_
  rintro e w8 ⟨rfl, f8, k8⟩
  rw [hmg] at f8 ⊢
  dsimp only at f8 ⊢
  have K8 : Kept b w w8 := Kept.trans K7 k8
  have z8 := K8.size
  clear K7 f7 k8
  go_wp2_with fail
  refine (rAdd_any b false g0 x1 _ f8).mono ?_
  rintro e w9 ⟨rfl, f9, k9⟩
  rw [hag] at f9 ⊢
  dsimp only at f9 ⊢
  have K9 : Kept b w w9 := Kept.trans K8 k9
  have z9 := K9.size
  clear K8 f8 k9
  go_wp2_with fail
  refine (rPart_any b false 1099511627776 (yr0 (nIdx N M * 2 + 1)) 10000 _ f9).mono ?_
  rintro e w10 ⟨rfl, f10, k10⟩
  rw [hhy] at f10 ⊢
  dsimp only at f10 ⊢
  have K10 : Kept b w w10 := Kept.trans K9 k10
  have z10 := K10.size
  clear K9 f9 k10
  go_wp2_with fail
  refine (rMul_any b false y h1 _ f10).mono ?_
  rintro e w11 ⟨rfl, f11, k11⟩
  rw [hmh] at f11 ⊢
  dsimp only at f11 ⊢
  have K11 : Kept b w w11 := Kept.trans K10 k11
  have z11 := K11.size
  clear K10 f10 k11
  go_wp2_with fail
  refine (rAdd_any b false h0 x2 _ f11).mono ?_
  rintro e w12 ⟨rfl, f12, k12⟩
  rw [hah] at f12 ⊢
  dsimp only at f12 ⊢
  have K12 : Kept b w w12 := Kept.trans K11 k12
  have z12 := K12.size
  clear K11 f11 k12
  go_wp2
  refine bodyPost_ret (v := .tuple #[.int .i64 g2, .int .i64 h2]) (by simp [results, Tryd.results10, go_sem]) rfl ?_
  exact ⟨rfl, f12, K12⟩
end Go.Proofs.YtmhcfkcpoecokaaDoor
namespace Go.Proofs.YtmhcfkcpoecokaaDoor
open Go.RowKit

set_option maxRecDepth 100000 in
set_option maxHeartbeats 4000000 in
theorem rnum_ba (b : Nat) (n m t d : Int) (w : World) (hw : Fl b false w) (c1 : n < 1) (hd : cDaysS false t = (d, false)) :
    Calls Tryd.prog 10 #[.pointer (some ⟨b, 0, none⟩), .int .i64 n, .int .i64 m, .int .i64 t] w fun e w' => e = .returned (.tuple #[.int .i64 0, .int .i64 0]) ∧ Fl b true w' ∧ Kept b w w' := by
  have hl := hw.lies
  go_enter Tryd.func10, Tryd.ntmps10
  go_wp2_with fail
  refine (dDays_any b false t _ hw).mono ?_
  rintro e w1 ⟨rfl, f1, k1⟩
  rw [hd] at f1 ⊢
  dsimp only at f1 ⊢
  have K1 : Kept b w w1 := Kept.trans (Kept.refl b w) k1
  have z1 := K1.size
  clear k1
  go_wp2_with fail
  refine (rFail_any b false  _ f1).mono ?_
  rintro e w2 ⟨rfl, f2, k2⟩
  have K2 : Kept b w w2 := Kept.trans K1 k2
  have z2 := K2.size
  clear K1 f1 k2
  have c3_BF := f2.cell
  go_wp2
  clear c3_BF
  refine bodyPost_ret (v := .tuple #[.int .i64 0, .int .i64 0]) (by simp [results, Tryd.results10, go_sem]) rfl ?_
  exact ⟨rfl, f2, K2⟩
set_option maxRecDepth 100000 in
set_option maxHeartbeats 4000000 in
theorem rnum_bb (b : Nat) (n m t d : Int) (w : World) (hw : Fl b false w) (c1 : ¬ n < 1) (c2 : n > 6) (hd : cDaysS false t = (d, false)) :
    Calls Tryd.prog 10 #[.pointer (some ⟨b, 0, none⟩), .int .i64 n, .int .i64 m, .int .i64 t] w fun e w' => e = .returned (.tuple #[.int .i64 0, .int .i64 0]) ∧ Fl b true w' ∧ Kept b w w' := by
  have hl := hw.lies
  go_enter Tryd.func10, Tryd.ntmps10
  go_wp2_with fail
  refine (dDays_any b false t _ hw).mono ?_
  rintro e w1 ⟨rfl, f1, k1⟩
  rw [hd] at f1 ⊢
  dsimp only at f1 ⊢
  have K1 : Kept b w w1 := Kept.trans (Kept.refl b w) k1
  have z1 := K1.size
  clear k1
  go_wp2_with fail
  refine (rFail_any b false  _ f1).mono ?_
  rintro e w2 ⟨rfl, f2, k2⟩
  have K2 : Kept b w w2 := Kept.trans K1 k2
  have z2 := K2.size
  clear K1 f1 k2
  have c3_BF := f2.cell
  go_wp2
  clear c3_BF
  refine bodyPost_ret (v := .tuple #[.int .i64 0, .int .i64 0]) (by simp [results, Tryd.results10, go_sem]) rfl ?_
  exact ⟨rfl, f2, K2⟩
set_option maxRecDepth 100000 in
set_option maxHeartbeats 4000000 in
theorem rnum_bc (b : Nat) (n m t d : Int) (w : World) (hw : Fl b false w) (c1 : ¬ n < 1) (c2 : ¬ n > 6) (c3 : m < 0) (hd : cDaysS false t = (d, false)) :
    Calls Tryd.prog 10 #[.pointer (some ⟨b, 0, none⟩), .int .i64 n, .int .i64 m, .int .i64 t] w fun e w' => e = .returned (.tuple #[.int .i64 0, .int .i64 0]) ∧ Fl b true w' ∧ Kept b w w' := by
  have hl := hw.lies
  go_enter Tryd.func10, Tryd.ntmps10
  go_wp2_with fail
  refine (dDays_any b false t _ hw).mono ?_
  rintro e w1 ⟨rfl, f1, k1⟩
  rw [hd] at f1 ⊢
  dsimp only at f1 ⊢
  have K1 : Kept b w w1 := Kept.trans (Kept.refl b w) k1
  have z1 := K1.size
  clear k1
  go_wp2_with fail
  refine (rFail_any b false  _ f1).mono ?_
  rintro e w2 ⟨rfl, f2, k2⟩
  have K2 : Kept b w w2 := Kept.trans K1 k2
  have z2 := K2.size
  clear K1 f1 k2
  have c3_BF := f2.cell
  go_wp2
  clear c3_BF
  refine bodyPost_ret (v := .tuple #[.int .i64 0, .int .i64 0]) (by simp [results, Tryd.results10, go_sem]) rfl ?_
  exact ⟨rfl, f2, K2⟩
set_option maxRecDepth 100000 in
set_option maxHeartbeats 4000000 in
theorem rnum_bd (b : Nat) (n m t d : Int) (w : World) (hw : Fl b false w) (c1 : ¬ n < 1) (c2 : ¬ n > 6) (c3 : ¬ m < 0) (c4 : m > n) (hd : cDaysS false t = (d, false)) :
    Calls Tryd.prog 10 #[.pointer (some ⟨b, 0, none⟩), .int .i64 n, .int .i64 m, .int .i64 t] w fun e w' => e = .returned (.tuple #[.int .i64 0, .int .i64 0]) ∧ Fl b true w' ∧ Kept b w w' := by
  have hl := hw.lies
  go_enter Tryd.func10, Tryd.ntmps10
  go_wp2_with fail
  refine (dDays_any b false t _ hw).mono ?_
  rintro e w1 ⟨rfl, f1, k1⟩
  rw [hd] at f1 ⊢
  dsimp only at f1 ⊢
  have K1 : Kept b w w1 := Kept.trans (Kept.refl b w) k1
  have z1 := K1.size
  clear k1
  go_wp2_with fail
  refine (rFail_any b false  _ f1).mono ?_
  rintro e w2 ⟨rfl, f2, k2⟩
  have K2 : Kept b w w2 := Kept.trans K1 k2
  have z2 := K2.size
  clear K1 f1 k2
  have c3_BF := f2.cell
  go_wp2
  clear c3_BF
  refine bodyPost_ret (v := .tuple #[.int .i64 0, .int .i64 0]) (by simp [results, Tryd.results10, go_sem]) rfl ?_
  exact ⟨rfl, f2, K2⟩
set_option maxRecDepth 100000 in
set_option maxHeartbeats 4000000 in
theorem rnum_be (b : Nat) (n m t : Int) (w : World) (hw : Fl b false w) (hd : cDaysS false t = (0, true)) :
    Calls Tryd.prog 10 #[.pointer (some ⟨b, 0, none⟩), .int .i64 n, .int .i64 m, .int .i64 t] w fun e w' => e = .returned (.tuple #[.int .i64 0, .int .i64 0]) ∧ Fl b true w' ∧ Kept b w w' := by
  have hl := hw.lies
  go_enter Tryd.func10, Tryd.ntmps10
  go_wp2_with fail
  refine (dDays_any b false t _ hw).mono ?_
  rintro e w1 ⟨rfl, f1, k1⟩
  rw [hd] at f1 ⊢
  dsimp only at f1 ⊢
  have K1 : Kept b w w1 := Kept.trans (Kept.refl b w) k1
  have z1 := K1.size
  clear k1
  by_cases hc1 : n < 1
  · have Hhc1 : Hid (n < 1) := hc1
    go_wp2_with fail
    refine (rFail_any b true  _ f1).mono ?_
    rintro e w2 ⟨rfl, f2, k2⟩
    have K2 : Kept b w w2 := Kept.trans K1 k2
    have z2 := K2.size
    clear K1 f1 k2
    have c3_BF := f2.cell
    go_wp2
    clear c3_BF
    refine bodyPost_ret (v := .tuple #[.int .i64 0, .int .i64 0]) (by simp [results, Tryd.results10, go_sem]) rfl ?_
    exact ⟨rfl, f2, K2⟩
  · have Hhc1 : Hid (¬ n < 1) := hc1
    by_cases hc2 : n > 6
    · have Hhc2 : Hid (n > 6) := hc2
      go_wp2_with fail
      refine (rFail_any b true  _ f1).mono ?_
      rintro e w2 ⟨rfl, f2, k2⟩
      have K2 : Kept b w w2 := Kept.trans K1 k2
      have z2 := K2.size
      clear K1 f1 k2
      have c3_BF := f2.cell
      go_wp2
      clear c3_BF
      refine bodyPost_ret (v := .tuple #[.int .i64 0, .int .i64 0]) (by simp [results, Tryd.results10, go_sem]) rfl ?_
      exact ⟨rfl, f2, K2⟩
    · have Hhc2 : Hid (¬ n > 6) := hc2
      by_cases hc3 : m < 0
      · have Hhc3 : Hid (m < 0) := hc3
        go_wp2_with fail
        refine (rFail_any b true  _ f1).mono ?_
        rintro e w2 ⟨rfl, f2, k2⟩
        have K2 : Kept b w w2 := Kept.trans K1 k2
        have z2 := K2.size
        clear K1 f1 k2
        have c3_BF := f2.cell
        go_wp2
        clear c3_BF
        refine bodyPost_ret (v := .tuple #[.int .i64 0, .int .i64 0]) (by simp [results, Tryd.results10, go_sem]) rfl ?_
        exact ⟨rfl, f2, K2⟩
      · have Hhc3 : Hid (¬ m < 0) := hc3
        by_cases hc4 : m > n
        · have Hhc4 : Hid (m > n) := hc4
          go_wp2_with fail
          refine (rFail_any b true  _ f1).mono ?_
          rintro e w2 ⟨rfl, f2, k2⟩
          have K2 : Kept b w w2 := Kept.trans K1 k2
          have z2 := K2.size
          clear K1 f1 k2
          have c3_BF := f2.cell
          go_wp2
          clear c3_BF
          refine bodyPost_ret (v := .tuple #[.int .i64 0, .int .i64 0]) (by simp [results, Tryd.results10, go_sem]) rfl ?_
          exact ⟨rfl, f2, K2⟩
        · have Hhc4 : Hid (¬ m > n) := hc4
          have c2_BF := f1.cell
          go_wp2
          clear c2_BF
          refine bodyPost_ret (v := .tuple #[.int .i64 0, .int .i64 0]) (by simp [results, Tryd.results10, go_sem]) rfl ?_
          exact ⟨rfl, f1, K1⟩
end Go.Proofs.YtmhcfkcpoecokaaDoor
namespace Go.Proofs.YtmhcfkcpoecokaaDoor
open Go.RowKit

theorem rnum_any (b : Nat) (bad : Bool) (n m t : Int) (w : World) (hw : Fl b bad w) (hz : bad = false) :
    Calls Tryd.prog 10 #[.pointer (some ⟨b, 0, none⟩), .int .i64 n, .int .i64 m, .int .i64 t] w fun e w' => e = .returned (.tuple #[.int .i64 (numS bad n m t).1.1, .int .i64 (numS bad n m t).1.2]) ∧ Fl b (numS bad n m t).2 w' ∧ Kept b w w' := by
  subst hz
  by_cases h : numIn n m t
  · obtain ⟨n1, n6, m0, mn, t0, t1⟩ := h
    obtain ⟨N, rfl⟩ := Int.eq_ofNat_of_zero_le (show 0 ≤ n by omega)
    obtain ⟨M, rfl⟩ := Int.eq_ofNat_of_zero_le m0
    have h1 : 1 ≤ N := by omega
    have h6 : N ≤ 6 := by omega
    have hm : M ≤ N := by omega
    obtain ⟨_, hg, hh⟩ := num_parts h1 h6 hm
    obtain ⟨hy, y0, y1⟩ := year_in t0 t1
    rw [numS_in h1 h6 hm t0 t1]
    by_cases h2 : N ≤ 2
    · obtain ⟨_, gy, hhy⟩ := num_low h1 h2 hm
      have G := year_g (m := M) y0 y1 h2
      have K := year_h (m := M) y0 y1 h2
      exact rnum_lo b N M t _ _ _ _ _ _ _ _ _ _ w hw h1 h6 hm (cDaysS_in t0 t1) hg hh h2 hy gy hhy G.hm K.hm G.ha K.ha
    · have eg : gS (yearS t) N M = fG N M := if_neg h2
      have eh : hS (yearS t) N M = fH N M := if_neg h2
      rw [eg, eh]
      exact rnum_hi b N M t _ _ _ w hw h1 h6 hm (cDaysS_in t0 t1) hg hh h2
  · rw [numS_out h]
    rcases cRight_cases t with ⟨t0, t1⟩ | hn
    · have hd := cDaysS_in t0 t1
      by_cases c1 : n < 1
      · exact rnum_ba b n m t _ w hw c1 hd
      by_cases c2 : n > 6
      · exact rnum_bb b n m t _ w hw c1 c2 hd
      by_cases c3 : m < 0
      · exact rnum_bc b n m t _ w hw c1 c2 c3 hd
      by_cases c4 : m > n
      · exact rnum_bd b n m t _ w hw c1 c2 c3 c4 hd
      · exact absurd ⟨by omega, by omega, by omega, by omega, t0, t1⟩ h
    · exact rnum_be b n m t w hw (cDaysS_out false hn)
end Go.Proofs.YtmhcfkcpoecokaaDoor
namespace Go.Proofs.YtmhcfkcpoecokaaDoor
open Go.RowKit

set_option maxRecDepth 100000 in
set_option maxHeartbeats 4000000 in
theorem rearth_ba (b : Nat) (bad nb : Bool) (p : V3) (t r : Int) (w : World) (hw : Fl b bad w) (hr : vNormS bad p = (r, nb)) (c1 : r < 6597069766656) :
    Calls Tryd.prog 12 #[.pointer (some ⟨b, 0, none⟩), .agg #[.int .i64 p.1, .int .i64 p.2.1, .int .i64 p.2.2], .int .i64 t] w fun e w' => e = .returned (.agg #[.int .i64 0, .int .i64 0, .int .i64 0]) ∧ Fl b true w' ∧ Kept b w w' := by
  have hl := hw.lies
  go_enter Tryd.func12, Tryd.ntmps12
  have y1_BF : b < w.heap.size := hw.lies
  have y2_BF : b < w.heap.size + 1 := (Nat.lt_succ_of_lt hw.lies)
  have y2_B0 : w.heap.size < w.heap.size + 1 := (Nat.lt_succ_self _)
  go_wp2_with fail
  refine (xNorm_any b bad p _ ((hw.alloc _).alloc _)).mono ?_
  rintro e w1 ⟨rfl, f1, k1⟩
  rw [hr] at f1 ⊢
  dsimp only at f1 ⊢
  have K1 : Kept b w w1 := Kept.trans (((Kept.refl b w).al _).al _) k1
  have B0_1 : Arr w.heap.size [.int .i64 p.1, .int .i64 p.2.1, .int .i64 p.2.2] w1 := ((Arr_at _ _ [.int .i64 p.1, .int .i64 p.2.1, .int .i64 p.2.2] _ (by simp)).alloc _).kept k1 (Nat.ne_of_gt y1_BF)
  have B1_1 : Arr (w.heap.size + 1) [.int .i64 0, .int .i64 0, .int .i64 0] w1 := (Arr_at _ _ [.int .i64 0, .int .i64 0, .int .i64 0] _ (by simp)).kept k1 (Nat.ne_of_gt y2_BF)
  have z1 := B1_1.lies
  clear k1
  go_wp2_with fail
  refine (dDays_any b nb t _ f1).mono ?_
  rintro e w2 ⟨rfl, f2, k2⟩
  generalize e2 : cDaysS nb t = r2 at f2 ⊢
  have E2 : Hid _ := e2
  clear e2
  have K2 : Kept b w w2 := Kept.trans K1 k2
  have B0_2 : Arr w.heap.size [.int .i64 p.1, .int .i64 p.2.1, .int .i64 p.2.2] w2 := B0_1.kept k2 (Nat.ne_of_gt y1_BF)
  have B1_2 : Arr (w.heap.size + 1) [.int .i64 0, .int .i64 0, .int .i64 0] w2 := B1_1.kept k2 (Nat.ne_of_gt y2_BF)
  have z2 := B1_2.lies
  clear K1 f1 B0_1 B1_1 k2
  go_wp2_with fail
  refine (rFail_any b r2.2  _ f2).mono ?_
  rintro e w3 ⟨rfl, f3, k3⟩
  have K3 : Kept b w w3 := Kept.trans K2 k3
  have B0_3 : Arr w.heap.size [.int .i64 p.1, .int .i64 p.2.1, .int .i64 p.2.2] w3 := B0_2.kept k3 (Nat.ne_of_gt y1_BF)
  have B1_3 : Arr (w.heap.size + 1) [.int .i64 0, .int .i64 0, .int .i64 0] w3 := B1_2.kept k3 (Nat.ne_of_gt y2_BF)
  have z3 := B1_3.lies
  clear K2 f2 B0_2 B1_2 k3
  have c4_B1_0 : w3.cell? ⟨w.heap.size + 1, 0, none⟩ = some (.int .i64 0) := B1_3.c 0 (of_decide_eq_true rfl)
  have c4_B1_1 : w3.cell? ⟨w.heap.size + 1, 1, none⟩ = some (.int .i64 0) := B1_3.c 1 (of_decide_eq_true rfl)
  have c4_B1_2 : w3.cell? ⟨w.heap.size + 1, 2, none⟩ = some (.int .i64 0) := B1_3.c 2 (of_decide_eq_true rfl)
  have c4_BF := f3.cell
  have g4_B1_0 := B1_3.f 0 (of_decide_eq_true rfl)
  have g4_B1_1 := B1_3.f 1 (of_decide_eq_true rfl)
  have g4_B1_2 := B1_3.f 2 (of_decide_eq_true rfl)
  go_wp2_with (with_reducible refine post_stop ?_)
  refine Stop.mk ?_
  clear c4_B1_0 c4_B1_1 c4_B1_2 c4_BF g4_B1_0 g4_B1_1 g4_B1_2
  refine bodyPost_ret (v := .agg #[.int .i64 0, .int .i64 0, .int .i64 0]) (results_arr Tryd.results12 (((B1_3.put 0 (of_decide_eq_true rfl) (.int .i64 0) [.int .i64 0, .int .i64 0, .int .i64 0] rfl).put 1 (of_decide_eq_true rfl) (.int .i64 0) [.int .i64 0, .int .i64 0, .int .i64 0] rfl).put 2 (of_decide_eq_true rfl) (.int .i64 0) [.int .i64 0, .int .i64 0, .int .i64 0] rfl) rfl (by kernel_rfl) (by kernel_rfl)) rfl ?_
  exact ⟨rfl, (((f3.new (w.heap.size + 1) 0 (Nat.ne_of_lt y2_BF) (.int .i64 0)).new (w.heap.size + 1) 1 (Nat.ne_of_lt y2_BF) (.int .i64 0)).new (w.heap.size + 1) 2 (Nat.ne_of_lt y2_BF) (.int .i64 0)), (((K3.new _ _ (by omega) _).new _ _ (by omega) _).new _ _ (by omega) _)⟩
set_option maxRecDepth 100000 in
set_option maxHeartbeats 4000000 in
theorem rearth_bb (b : Nat) (bad nb : Bool) (p : V3) (t r : Int) (w : World) (hw : Fl b bad w) (hr : vNormS bad p = (r, nb)) (c1 : ¬ r < 6597069766656) (c2 : r > 10995116277760) :
    Calls Tryd.prog 12 #[.pointer (some ⟨b, 0, none⟩), .agg #[.int .i64 p.1, .int .i64 p.2.1, .int .i64 p.2.2], .int .i64 t] w fun e w' => e = .returned (.agg #[.int .i64 0, .int .i64 0, .int .i64 0]) ∧ Fl b true w' ∧ Kept b w w' := by
  have hl := hw.lies
  go_enter Tryd.func12, Tryd.ntmps12
  have y1_BF : b < w.heap.size := hw.lies
  have y2_BF : b < w.heap.size + 1 := (Nat.lt_succ_of_lt hw.lies)
  have y2_B0 : w.heap.size < w.heap.size + 1 := (Nat.lt_succ_self _)
  go_wp2_with fail
  refine (xNorm_any b bad p _ ((hw.alloc _).alloc _)).mono ?_
  rintro e w1 ⟨rfl, f1, k1⟩
  rw [hr] at f1 ⊢
  dsimp only at f1 ⊢
  have K1 : Kept b w w1 := Kept.trans (((Kept.refl b w).al _).al _) k1
  have B0_1 : Arr w.heap.size [.int .i64 p.1, .int .i64 p.2.1, .int .i64 p.2.2] w1 := ((Arr_at _ _ [.int .i64 p.1, .int .i64 p.2.1, .int .i64 p.2.2] _ (by simp)).alloc _).kept k1 (Nat.ne_of_gt y1_BF)
  have B1_1 : Arr (w.heap.size + 1) [.int .i64 0, .int .i64 0, .int .i64 0] w1 := (Arr_at _ _ [.int .i64 0, .int .i64 0, .int .i64 0] _ (by simp)).kept k1 (Nat.ne_of_gt y2_BF)
  have z1 := B1_1.lies
  clear k1
  go_wp2_with fail
  refine (dDays_any b nb t _ f1).mono ?_
  rintro e w2 ⟨rfl, f2, k2⟩
  generalize e2 : cDaysS nb t = r2 at f2 ⊢
  have E2 : Hid _ := e2
  clear e2
  have K2 : Kept b w w2 := Kept.trans K1 k2
  have B0_2 : Arr w.heap.size [.int .i64 p.1, .int .i64 p.2.1, .int .i64 p.2.2] w2 := B0_1.kept k2 (Nat.ne_of_gt y1_BF)
  have B1_2 : Arr (w.heap.size + 1) [.int .i64 0, .int .i64 0, .int .i64 0] w2 := B1_1.kept k2 (Nat.ne_of_gt y2_BF)
  have z2 := B1_2.lies
  clear K1 f1 B0_1 B1_1 k2
  go_wp2_with fail
  refine (rFail_any b r2.2  _ f2).mono ?_
  rintro e w3 ⟨rfl, f3, k3⟩
  have K3 : Kept b w w3 := Kept.trans K2 k3
  have B0_3 : Arr w.heap.size [.int .i64 p.1, .int .i64 p.2.1, .int .i64 p.2.2] w3 := B0_2.kept k3 (Nat.ne_of_gt y1_BF)
  have B1_3 : Arr (w.heap.size + 1) [.int .i64 0, .int .i64 0, .int .i64 0] w3 := B1_2.kept k3 (Nat.ne_of_gt y2_BF)
  have z3 := B1_3.lies
  clear K2 f2 B0_2 B1_2 k3
  have c4_B1_0 : w3.cell? ⟨w.heap.size + 1, 0, none⟩ = some (.int .i64 0) := B1_3.c 0 (of_decide_eq_true rfl)
  have c4_B1_1 : w3.cell? ⟨w.heap.size + 1, 1, none⟩ = some (.int .i64 0) := B1_3.c 1 (of_decide_eq_true rfl)
  have c4_B1_2 : w3.cell? ⟨w.heap.size + 1, 2, none⟩ = some (.int .i64 0) := B1_3.c 2 (of_decide_eq_true rfl)
  have c4_BF := f3.cell
  have g4_B1_0 := B1_3.f 0 (of_decide_eq_true rfl)
  have g4_B1_1 := B1_3.f 1 (of_decide_eq_true rfl)
  have g4_B1_2 := B1_3.f 2 (of_decide_eq_true rfl)
  go_wp2_with (with_reducible refine post_stop ?_)
  refine Stop.mk ?_
  clear c4_B1_0 c4_B1_1 c4_B1_2 c4_BF g4_B1_0 g4_B1_1 g4_B1_2
  refine bodyPost_ret (v := .agg #[.int .i64 0, .int .i64 0, .int .i64 0]) (results_arr Tryd.results12 (((B1_3.put 0 (of_decide_eq_true rfl) (.int .i64 0) [.int .i64 0, .int .i64 0, .int .i64 0] rfl).put 1 (of_decide_eq_true rfl) (.int .i64 0) [.int .i64 0, .int .i64 0, .int .i64 0] rfl).put 2 (of_decide_eq_true rfl) (.int .i64 0) [.int .i64 0, .int .i64 0, .int .i64 0] rfl) rfl (by kernel_rfl) (by kernel_rfl)) rfl ?_
  exact ⟨rfl, (((f3.new (w.heap.size + 1) 0 (Nat.ne_of_lt y2_BF) (.int .i64 0)).new (w.heap.size + 1) 1 (Nat.ne_of_lt y2_BF) (.int .i64 0)).new (w.heap.size + 1) 2 (Nat.ne_of_lt y2_BF) (.int .i64 0)), (((K3.new _ _ (by omega) _).new _ _ (by omega) _).new _ _ (by omega) _)⟩
set_option maxRecDepth 100000 in
set_option maxHeartbeats 4000000 in
theorem rearth_bc (b : Nat) (bad nb : Bool) (p : V3) (t r : Int) (w : World) (hw : Fl b bad w) (hr : vNormS bad p = (r, nb)) (c1 : ¬ r < 6597069766656) (c2 : ¬ r > 10995116277760) (hd : cDaysS nb t = (0, true)) :
    Calls Tryd.prog 12 #[.pointer (some ⟨b, 0, none⟩), .agg #[.int .i64 p.1, .int .i64 p.2.1, .int .i64 p.2.2], .int .i64 t] w fun e w' => e = .returned (.agg #[.int .i64 0, .int .i64 0, .int .i64 0]) ∧ Fl b true w' ∧ Kept b w w' := by
  have hl := hw.lies
  go_enter Tryd.func12, Tryd.ntmps12
  have y1_BF : b < w.heap.size := hw.lies
  have y2_BF : b < w.heap.size + 1 := (Nat.lt_succ_of_lt hw.lies)
  have y2_B0 : w.heap.size < w.heap.size + 1 := (Nat.lt_succ_self _)
  go_wp2_with fail
  refine (xNorm_any b bad p _ ((hw.alloc _).alloc _)).mono ?_
  rintro e w1 ⟨rfl, f1, k1⟩
  rw [hr] at f1 ⊢
  dsimp only at f1 ⊢
  have K1 : Kept b w w1 := Kept.trans (((Kept.refl b w).al _).al _) k1
  have B0_1 : Arr w.heap.size [.int .i64 p.1, .int .i64 p.2.1, .int .i64 p.2.2] w1 := ((Arr_at _ _ [.int .i64 p.1, .int .i64 p.2.1, .int .i64 p.2.2] _ (by simp)).alloc _).kept k1 (Nat.ne_of_gt y1_BF)
  have B1_1 : Arr (w.heap.size + 1) [.int .i64 0, .int .i64 0, .int .i64 0] w1 := (Arr_at _ _ [.int .i64 0, .int .i64 0, .int .i64 0] _ (by simp)).kept k1 (Nat.ne_of_gt y2_BF)
  have z1 := B1_1.lies
  clear k1
  go_wp2_with fail
  refine (dDays_any b nb t _ f1).mono ?_
  rintro e w2 ⟨rfl, f2, k2⟩
  rw [hd] at f2 ⊢
  dsimp only at f2 ⊢
  have K2 : Kept b w w2 := Kept.trans K1 k2
  have B0_2 : Arr w.heap.size [.int .i64 p.1, .int .i64 p.2.1, .int .i64 p.2.2] w2 := B0_1.kept k2 (Nat.ne_of_gt y1_BF)
  have B1_2 : Arr (w.heap.size + 1) [.int .i64 0, .int .i64 0, .int .i64 0] w2 := B1_1.kept k2 (Nat.ne_of_gt y2_BF)
  have z2 := B1_2.lies
  clear K1 f1 B0_1 B1_1 k2
  have c3_B1_0 : w2.cell? ⟨w.heap.size + 1, 0, none⟩ = some (.int .i64 0) := B1_2.c 0 (of_decide_eq_true rfl)
  have c3_B1_1 : w2.cell? ⟨w.heap.size + 1, 1, none⟩ = some (.int .i64 0) := B1_2.c 1 (of_decide_eq_true rfl)
  have c3_B1_2 : w2.cell? ⟨w.heap.size + 1, 2, none⟩ = some (.int .i64 0) := B1_2.c 2 (of_decide_eq_true rfl)
  have c3_BF := f2.cell
  have g3_B1_0 := B1_2.f 0 (of_decide_eq_true rfl)
  have g3_B1_1 := B1_2.f 1 (of_decide_eq_true rfl)
  have g3_B1_2 := B1_2.f 2 (of_decide_eq_true rfl)
  go_wp2_with (with_reducible refine post_stop ?_)
  refine Stop.mk ?_
  clear c3_B1_0 c3_B1_1 c3_B1_2 c3_BF g3_B1_0 g3_B1_1 g3_B1_2
  refine bodyPost_ret (v := .agg #[.int .i64 0, .int .i64 0, .int .i64 0]) (results_arr Tryd.results12 (((B1_2.put 0 (of_decide_eq_true rfl) (.int .i64 0) [.int .i64 0, .int .i64 0, .int .i64 0] rfl).put 1 (of_decide_eq_true rfl) (.int .i64 0) [.int .i64 0, .int .i64 0, .int .i64 0] rfl).put 2 (of_decide_eq_true rfl) (.int .i64 0) [.int .i64 0, .int .i64 0, .int .i64 0] rfl) rfl (by kernel_rfl) (by kernel_rfl)) rfl ?_
  exact ⟨rfl, (((f2.new (w.heap.size + 1) 0 (Nat.ne_of_lt y2_BF) (.int .i64 0)).new (w.heap.size + 1) 1 (Nat.ne_of_lt y2_BF) (.int .i64 0)).new (w.heap.size + 1) 2 (Nat.ne_of_lt y2_BF) (.int .i64 0)), (((K2.new _ _ (by omega) _).new _ _ (by omega) _).new _ _ (by omega) _)⟩
end Go.Proofs.YtmhcfkcpoecokaaDoor
