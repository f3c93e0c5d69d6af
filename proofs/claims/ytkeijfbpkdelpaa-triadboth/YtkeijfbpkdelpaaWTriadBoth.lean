/-
  The walk of the law TriadBoth, for the seat Ytkeijfbpkdelpaa. (Made by mklaw05.py.)
-/
import Derived.Test.YtkeijfbpkdelpaaWTriadBothA
import Derived.Test.YtkeijfbpkdelpaaDMath
import Derived.Test.YtkeijfbpkdelpaaStop
import Derived.Handy
import Derived.Deep.RegionHeld3
namespace Go.Proofs.Ytkeijfbpkdelpaa
open Go.RowKit

set_option maxRecDepth 100000 in
set_option maxHeartbeats 4000000 in
theorem TriadBoth_good (q : V4) (p : V6) (w : World) (o0 o1 o2 o3 : Int) (hq : qUnitS false q = ((o0, o1, o2, o3), false)) (l0 : longS (p.1, p.2.1, p.2.2.1) = true) (l1 : longS p.2.2.2 = true) (a0 a1 a2 b0 b1 b2 t0 t1 t2 y0 y1 y2 s0 s1 : Int) (ha : vUnitS false (p.1, p.2.1, p.2.2.1) = ((a0, a1, a2), false)) (hb : vUnitS false p.2.2.2 = ((b0, b1, b2), false)) (ht : qTurnS false (o0, o1, o2, o3) (a0, a1, a2) = ((t0, t1, t2), false)) (hy : qTurnS false (o0, o1, o2, o3) (b0, b1, b2) = ((y0, y1, y2), false)) (hs : vPartsS false (a0, a1, a2) (b0, b1, b2) = ((s0, s1), false)) (hc : ¬ s0 < 300000000000) (u0 u1 u2 u3 x0 x1 x2 x3 : Int) (hu : dAttitudeS false p (t0, t1, t2, y0, y1, y2) = ((u0, u1, u2, u3), false)) (hk : qBackS (o0, o1, o2, o3) = ((-o0), (-o1), (-o2), o3)) (hx : qMulS false (u0, u1, u2, u3) ((-o0), (-o1), (-o2), o3) = ((x0, x1, x2, x3), false)) (n0 : -4096 ≤ x0 ∧ x0 ≤ 4096) (n1 : -4096 ≤ x1 ∧ x1 ≤ 4096) (n2 : -4096 ≤ x2 ∧ x2 ≤ 4096) (hn : near5S (x0, x1, x2) (0, 0, 0) = true) :
    Calls Try.prog 6 #[.agg #[.int .i64 q.1, .int .i64 q.2.1, .int .i64 q.2.2.1, .int .i64 q.2.2.2], .agg #[.int .i64 p.1, .int .i64 p.2.1, .int .i64 p.2.2.1, .int .i64 p.2.2.2.1, .int .i64 p.2.2.2.2.1, .int .i64 p.2.2.2.2.2]] w fun e w' => e = .returned (.bool true) ∧ Below w.heap.size w w' := by
  go_enter Try.func6, Try.ntmps6
  have y84_low : w.heap.size ≤ w.heap.size := (Below.refl w.heap.size w).size
  have y85_B0 : w.heap.size < w.heap.size + 1 := (Nat.lt_succ_self _)
  have y85_low : w.heap.size ≤ w.heap.size + 1 := (Nat.le_succ_of_le (Below.refl w.heap.size w).size)
  go_wp2_with fail
  refine (awake_any  _).mono ?_
  rintro e w1 ⟨rfl, k1⟩
  have K1 : Below w.heap.size w w1 := bel_then (bel_al (bel_al (Below.refl w.heap.size w) _) _) k1
  have B0_1 : Arr w.heap.size [.int .i64 q.1, .int .i64 q.2.1, .int .i64 q.2.2.1, .int .i64 q.2.2.2] w1 := ((Arr_at _ _ [.int .i64 q.1, .int .i64 q.2.1, .int .i64 q.2.2.1, .int .i64 q.2.2.2] _ (by simp)).alloc _).below k1
  have B1_1 : Arr (w.heap.size + 1) [.int .i64 p.1, .int .i64 p.2.1, .int .i64 p.2.2.1, .int .i64 p.2.2.2.1, .int .i64 p.2.2.2.2.1, .int .i64 p.2.2.2.2.2] w1 := (Arr_at _ _ [.int .i64 p.1, .int .i64 p.2.1, .int .i64 p.2.2.1, .int .i64 p.2.2.2.1, .int .i64 p.2.2.2.2.1, .int .i64 p.2.2.2.2.2] _ (by simp)).below k1
  have z1 := B1_1.lies
  clear k1
  have y86_B0 : w.heap.size < w1.heap.size := B0_1.lies
  have y86_B1 : w.heap.size + 1 < w1.heap.size := B1_1.lies
  have y86_low : w.heap.size ≤ w1.heap.size := K1.size
  have c2_B0_0 : w1.cell? ⟨w.heap.size, 0, none⟩ = some (.int .i64 q.1) := B0_1.c 0 (of_decide_eq_true rfl)
  have c2_B0_1 : w1.cell? ⟨w.heap.size, 1, none⟩ = some (.int .i64 q.2.1) := B0_1.c 1 (of_decide_eq_true rfl)
  have c2_B0_2 : w1.cell? ⟨w.heap.size, 2, none⟩ = some (.int .i64 q.2.2.1) := B0_1.c 2 (of_decide_eq_true rfl)
  have c2_B0_3 : w1.cell? ⟨w.heap.size, 3, none⟩ = some (.int .i64 q.2.2.2) := B0_1.c 3 (of_decide_eq_true rfl)
  have l2_B0 := B0_1.lies
  go_wp2_with fail
  refine (qUnit_any w1.heap.size false q _ (Fl_at _ _ _ _ (by simp))).mono ?_
  rintro e w2 ⟨rfl, f2, k2⟩
  rw [hq] at f2 ⊢
  dsimp only at f2 ⊢
  have K2 : Below w.heap.size w w2 := k2.on (bel_al K1 _) (by omega)
  have B0_2 : Arr w.heap.size [.int .i64 q.1, .int .i64 q.2.1, .int .i64 q.2.2.1, .int .i64 q.2.2.2] w2 := (B0_1.alloc _).kept k2 (Nat.ne_of_lt y86_B0)
  have B1_2 : Arr (w.heap.size + 1) [.int .i64 p.1, .int .i64 p.2.1, .int .i64 p.2.2.1, .int .i64 p.2.2.2.1, .int .i64 p.2.2.2.2.1, .int .i64 p.2.2.2.2.2] w2 := (B1_1.alloc _).kept k2 (Nat.ne_of_lt y86_B1)
  have z2 := f2.lies
  clear c2_B0_0 c2_B0_1 c2_B0_2 c2_B0_3 l2_B0 K1 B0_1 B1_1 k2
  have y87_B0 : w.heap.size < w2.heap.size := B0_2.lies
  have y87_B1 : w.heap.size + 1 < w2.heap.size := B1_2.lies
  have y87_B2 : w1.heap.size < w2.heap.size := f2.lies
  have y87_low : w.heap.size ≤ w2.heap.size := K2.size
  have c3_B1_0 : w2.cell? ⟨w.heap.size + 1, 0, none⟩ = some (.int .i64 p.1) := B1_2.c 0 (of_decide_eq_true rfl)
  have c3_B1_1 : w2.cell? ⟨w.heap.size + 1, 1, none⟩ = some (.int .i64 p.2.1) := B1_2.c 1 (of_decide_eq_true rfl)
  have c3_B1_2 : w2.cell? ⟨w.heap.size + 1, 2, none⟩ = some (.int .i64 p.2.2.1) := B1_2.c 2 (of_decide_eq_true rfl)
  have c3_B2 := f2.cell
  have l3_B1 := B1_2.lies
  have l3_B2 := f2.lies
  go_wp2_with fail
  refine (long_any (p.1, p.2.1, p.2.2.1) _).mono ?_
  rintro e w3 ⟨rfl, k3⟩
  rw [l0]
  try dsimp only
  have K3 : Below w.heap.size w w3 := bel_then (bel_al K2 _) k3
  have B0_3 : Arr w.heap.size [.int .i64 q.1, .int .i64 q.2.1, .int .i64 q.2.2.1, .int .i64 q.2.2.2] w3 := (B0_2.alloc _).below k3
  have B1_3 : Arr (w.heap.size + 1) [.int .i64 p.1, .int .i64 p.2.1, .int .i64 p.2.2.1, .int .i64 p.2.2.2.1, .int .i64 p.2.2.2.2.1, .int .i64 p.2.2.2.2.2] w3 := (B1_2.alloc _).below k3
  have B2_3 : Fl w1.heap.size false w3 := (f2.alloc _).below k3
  have B3_3 : Arr w2.heap.size [.int .i64 o0, .int .i64 o1, .int .i64 o2, .int .i64 o3] w3 := (Arr_at _ _ [.int .i64 o0, .int .i64 o1, .int .i64 o2, .int .i64 o3] _ (by simp)).below k3
  have z3 := B3_3.lies
  clear c3_B1_0 c3_B1_1 c3_B1_2 c3_B2 l3_B1 l3_B2 K2 B0_2 B1_2 f2 k3
  have c4_B1_3 : w3.cell? ⟨w.heap.size + 1, 3, none⟩ = some (.int .i64 p.2.2.2.1) := B1_3.c 3 (of_decide_eq_true rfl)
  have c4_B1_4 : w3.cell? ⟨w.heap.size + 1, 4, none⟩ = some (.int .i64 p.2.2.2.2.1) := B1_3.c 4 (of_decide_eq_true rfl)
  have c4_B1_5 : w3.cell? ⟨w.heap.size + 1, 5, none⟩ = some (.int .i64 p.2.2.2.2.2) := B1_3.c 5 (of_decide_eq_true rfl)
  go_wp2_with fail
  refine (long_any p.2.2.2 _).mono ?_
  rintro e w4 ⟨rfl, k4⟩
  rw [l1]
  try dsimp only
  have K4 : Below w.heap.size w w4 := bel_then K3 k4
  have B0_4 : Arr w.heap.size [.int .i64 q.1, .int .i64 q.2.1, .int .i64 q.2.2.1, .int .i64 q.2.2.2] w4 := B0_3.below k4
  have B1_4 : Arr (w.heap.size + 1) [.int .i64 p.1, .int .i64 p.2.1, .int .i64 p.2.2.1, .int .i64 p.2.2.2.1, .int .i64 p.2.2.2.2.1, .int .i64 p.2.2.2.2.2] w4 := B1_3.below k4
  have B2_4 : Fl w1.heap.size false w4 := B2_3.below k4
  have B3_4 : Arr w2.heap.size [.int .i64 o0, .int .i64 o1, .int .i64 o2, .int .i64 o3] w4 := B3_3.below k4
  have z4 := B3_4.lies
  clear c4_B1_3 c4_B1_4 c4_B1_5 K3 B0_3 B1_3 B2_3 B3_3 k4
  go_wp2_with fail
  rename_i K0 aK0
  have cont1 : ∀ (W1 : World) (t1_15 t1_16 t1_17 t1_18 t1_19 t1_20 t1_21 t1_22 t1_23 t1_24 t1_25 t1_26 t1_27 t1_28 t1_29 t1_30 t1_31 t1_32 t1_33 t1_34 t1_35 t1_36 t1_37 t1_38 t1_39 t1_40 t1_41 t1_42 t1_43 t1_44 t1_45 : Value) (x1_0 : Nat) (x1_1 : Nat) , Below w.heap.size w W1 → Arr w.heap.size [.int .i64 q.1, .int .i64 q.2.1, .int .i64 q.2.2.1, .int .i64 q.2.2.2] W1 → Arr (w.heap.size + 1) [.int .i64 p.1, .int .i64 p.2.1, .int .i64 p.2.2.1, .int .i64 p.2.2.2.1, .int .i64 p.2.2.2.2.1, .int .i64 p.2.2.2.2.2] W1 → Fl w1.heap.size false W1 → Arr w2.heap.size [.int .i64 o0, .int .i64 o1, .int .i64 o2, .int .i64 o3] W1 → Arr x1_0 [.int .i64 a0, .int .i64 a1, .int .i64 a2] W1 → Arr x1_1 [.int .i64 b0, .int .i64 b1, .int .i64 b2] W1 → w.heap.size ≤ x1_0 → w.heap.size ≤ x1_1 → w.heap.size < x1_0 → w.heap.size + 1 < x1_0 → w1.heap.size < x1_0 → w2.heap.size < x1_0 → w.heap.size < x1_1 → w.heap.size + 1 < x1_1 → w1.heap.size < x1_1 → w2.heap.size < x1_1 → x1_0 ≠ x1_1 → K0 { tmps := #[.agg #[.int .i64 q.1, .int .i64 q.2.1, .int .i64 q.2.2.1, .int .i64 q.2.2.2], .agg #[.int .i64 p.1, .int .i64 p.2.1, .int .i64 p.2.2.1, .int .i64 p.2.2.2.1, .int .i64 p.2.2.2.2.1, .int .i64 p.2.2.2.2.2], .pointer (some ⟨w.heap.size, 0, none⟩), .pointer (some ⟨w.heap.size + 1, 0, none⟩), .bool false, .pointer (some ⟨w1.heap.size, 0, none⟩), .pointer (some ⟨w2.heap.size, 0, none⟩), .pointer (some ⟨x1_0, 0, none⟩), .pointer (some ⟨x1_1, 0, none⟩), undef, undef, undef, undef, undef, undef, t1_15, t1_16, t1_17, t1_18, t1_19, t1_20, t1_21, t1_22, t1_23, t1_24, t1_25, t1_26, t1_27, t1_28, t1_29, t1_30, t1_31, t1_32, t1_33, t1_34, t1_35, t1_36, t1_37, t1_38, t1_39, t1_40, t1_41, t1_42, t1_43, t1_44, t1_45, undef, undef, undef, undef, undef, undef, undef, undef, undef, undef, undef, undef, undef, undef, undef, undef, undef, undef, undef, undef, undef, undef, undef, undef, undef, undef, undef, undef, undef, undef, undef, undef, undef, undef, undef, undef, undef, undef, undef, undef, undef, undef, undef, undef, undef, undef, undef, undef, undef, undef], defers := [] } W1 := by
    intro W1 t1_15 t1_16 t1_17 t1_18 t1_19 t1_20 t1_21 t1_22 t1_23 t1_24 t1_25 t1_26 t1_27 t1_28 t1_29 t1_30 t1_31 t1_32 t1_33 t1_34 t1_35 t1_36 t1_37 t1_38 t1_39 t1_40 t1_41 t1_42 t1_43 t1_44 t1_45 x1_0 x1_1 KC1 B0_c1 B1_c1 B2_c1 B3_c1 B4_c1 B5_c1 s1_0 s1_1 s1_2 s1_3 s1_4 s1_5 s1_6 s1_7 s1_8 s1_9 s1_10
    have zc1_B0 := B0_c1.lies
    have zc1_B1 := B1_c1.lies
    have zc1_B2 := B2_c1.lies
    have zc1_B3 := B3_c1.lies
    have zc1_B4 := B4_c1.lies
    have zc1_B5 := B5_c1.lies
    apply aK0
    go_wp2_with fail
    rename_i K0 aK0
    have cont2 : ∀ (W2 : World) (t2_15 t2_16 t2_17 t2_18 t2_19 t2_20 t2_21 t2_22 t2_23 t2_24 t2_25 t2_26 t2_27 t2_28 t2_29 t2_30 t2_31 t2_32 t2_33 t2_34 t2_35 t2_36 t2_37 t2_38 t2_39 t2_40 t2_41 t2_42 t2_43 t2_44 t2_45 t2_46 t2_47 t2_48 t2_49 t2_50 t2_51 t2_52 t2_53 : Value) (x2_0 : Nat) (x2_1 : Nat) , Below w.heap.size w W2 → Arr w.heap.size [.int .i64 q.1, .int .i64 q.2.1, .int .i64 q.2.2.1, .int .i64 q.2.2.2] W2 → Arr (w.heap.size + 1) [.int .i64 p.1, .int .i64 p.2.1, .int .i64 p.2.2.1, .int .i64 p.2.2.2.1, .int .i64 p.2.2.2.2.1, .int .i64 p.2.2.2.2.2] W2 → Fl w1.heap.size false W2 → Arr w2.heap.size [.int .i64 o0, .int .i64 o1, .int .i64 o2, .int .i64 o3] W2 → Arr x1_0 [.int .i64 a0, .int .i64 a1, .int .i64 a2] W2 → Arr x1_1 [.int .i64 b0, .int .i64 b1, .int .i64 b2] W2 → Arr x2_0 [.int .i64 t0, .int .i64 t1, .int .i64 t2] W2 → Arr x2_1 [.int .i64 y0, .int .i64 y1, .int .i64 y2] W2 → w.heap.size ≤ x2_0 → w.heap.size ≤ x2_1 → w.heap.size < x2_0 → w.heap.size + 1 < x2_0 → w1.heap.size < x2_0 → w2.heap.size < x2_0 → x1_0 < x2_0 → x1_1 < x2_0 → w.heap.size < x2_1 → w.heap.size + 1 < x2_1 → w1.heap.size < x2_1 → w2.heap.size < x2_1 → x1_0 < x2_1 → x1_1 < x2_1 → x2_0 ≠ x2_1 → K0 { tmps := #[.agg #[.int .i64 q.1, .int .i64 q.2.1, .int .i64 q.2.2.1, .int .i64 q.2.2.2], .agg #[.int .i64 p.1, .int .i64 p.2.1, .int .i64 p.2.2.1, .int .i64 p.2.2.2.1, .int .i64 p.2.2.2.2.1, .int .i64 p.2.2.2.2.2], .pointer (some ⟨w.heap.size, 0, none⟩), .pointer (some ⟨w.heap.size + 1, 0, none⟩), .bool false, .pointer (some ⟨w1.heap.size, 0, none⟩), .pointer (some ⟨w2.heap.size, 0, none⟩), .pointer (some ⟨x1_0, 0, none⟩), .pointer (some ⟨x1_1, 0, none⟩), .pointer (some ⟨x2_0, 0, none⟩), .pointer (some ⟨x2_1, 0, none⟩), undef, undef, undef, undef, t2_15, t2_16, t2_17, t2_18, t2_19, t2_20, t2_21, t2_22, t2_23, t2_24, t2_25, t2_26, t2_27, t2_28, t2_29, t2_30, t2_31, t2_32, t2_33, t2_34, t2_35, t2_36, t2_37, t2_38, t2_39, t2_40, t2_41, t2_42, t2_43, t2_44, t2_45, t2_46, t2_47, t2_48, t2_49, t2_50, t2_51, t2_52, t2_53, undef, undef, undef, undef, undef, undef, undef, undef, undef, undef, undef, undef, undef, undef, undef, undef, undef, undef, undef, undef, undef, undef, undef, undef, undef, undef, undef, undef, undef, undef, undef, undef, undef, undef, undef, undef, undef, undef, undef, undef, undef, undef], defers := [] } W2 := by
      intro W2 t2_15 t2_16 t2_17 t2_18 t2_19 t2_20 t2_21 t2_22 t2_23 t2_24 t2_25 t2_26 t2_27 t2_28 t2_29 t2_30 t2_31 t2_32 t2_33 t2_34 t2_35 t2_36 t2_37 t2_38 t2_39 t2_40 t2_41 t2_42 t2_43 t2_44 t2_45 t2_46 t2_47 t2_48 t2_49 t2_50 t2_51 t2_52 t2_53 x2_0 x2_1 KC2 B0_c2 B1_c2 B2_c2 B3_c2 B4_c2 B5_c2 B6_c2 B7_c2 s2_0 s2_1 s2_2 s2_3 s2_4 s2_5 s2_6 s2_7 s2_8 s2_9 s2_10 s2_11 s2_12 s2_13 s2_14
      have zc2_B0 := B0_c2.lies
      have zc2_B1 := B1_c2.lies
      have zc2_B2 := B2_c2.lies
      have zc2_B3 := B3_c2.lies
      have zc2_B4 := B4_c2.lies
      have zc2_B5 := B5_c2.lies
      have zc2_B6 := B6_c2.lies
      have zc2_B7 := B7_c2.lies
      apply aK0
      have c7_B4_0 : W2.cell? ⟨x1_0, 0, none⟩ = some (.int .i64 a0) := B4_c2.c 0 (of_decide_eq_true rfl)
      have c7_B4_1 : W2.cell? ⟨x1_0, 1, none⟩ = some (.int .i64 a1) := B4_c2.c 1 (of_decide_eq_true rfl)
      have c7_B4_2 : W2.cell? ⟨x1_0, 2, none⟩ = some (.int .i64 a2) := B4_c2.c 2 (of_decide_eq_true rfl)
      have c7_B5_0 : W2.cell? ⟨x1_1, 0, none⟩ = some (.int .i64 b0) := B5_c2.c 0 (of_decide_eq_true rfl)
      have c7_B5_1 : W2.cell? ⟨x1_1, 1, none⟩ = some (.int .i64 b1) := B5_c2.c 1 (of_decide_eq_true rfl)
      have c7_B5_2 : W2.cell? ⟨x1_1, 2, none⟩ = some (.int .i64 b2) := B5_c2.c 2 (of_decide_eq_true rfl)
      go_wp2_with fail
      refine (vParts_any w1.heap.size false (a0, a1, a2) (b0, b1, b2) _ B2_c2).mono ?_
      rintro e w9 ⟨rfl, f9, k9⟩
      rw [hs] at f9 ⊢
      dsimp only at f9 ⊢
      have K9 : Below w.heap.size w w9 := k9.on KC2 (by omega)
      have B0_9 : Arr w.heap.size [.int .i64 q.1, .int .i64 q.2.1, .int .i64 q.2.2.1, .int .i64 q.2.2.2] w9 := B0_c2.kept k9 (Nat.ne_of_lt y86_B0)
      have B1_9 : Arr (w.heap.size + 1) [.int .i64 p.1, .int .i64 p.2.1, .int .i64 p.2.2.1, .int .i64 p.2.2.2.1, .int .i64 p.2.2.2.2.1, .int .i64 p.2.2.2.2.2] w9 := B1_c2.kept k9 (Nat.ne_of_lt y86_B1)
      have B3_9 : Arr w2.heap.size [.int .i64 o0, .int .i64 o1, .int .i64 o2, .int .i64 o3] w9 := B3_c2.kept k9 (Nat.ne_of_gt y87_B2)
      have B4_9 : Arr x1_0 [.int .i64 a0, .int .i64 a1, .int .i64 a2] w9 := B4_c2.kept k9 (Nat.ne_of_gt s1_4)
      have B5_9 : Arr x1_1 [.int .i64 b0, .int .i64 b1, .int .i64 b2] w9 := B5_c2.kept k9 (Nat.ne_of_gt s1_8)
      have B6_9 : Arr x2_0 [.int .i64 t0, .int .i64 t1, .int .i64 t2] w9 := B6_c2.kept k9 (Nat.ne_of_gt s2_4)
      have B7_9 : Arr x2_1 [.int .i64 y0, .int .i64 y1, .int .i64 y2] w9 := B7_c2.kept k9 (Nat.ne_of_gt s2_10)
      have z9 := B7_9.lies
      have z9_B4 := B4_9.lies
      have z9_B5 := B5_9.lies
      have z9_B6 := B6_9.lies
      clear c7_B4_0 c7_B4_1 c7_B4_2 c7_B5_0 c7_B5_1 c7_B5_2 B0_c2 B1_c2 B2_c2 B3_c2 B4_c2 B5_c2 B6_c2 B7_c2 k9
      have c8_B1_0 : w9.cell? ⟨w.heap.size + 1, 0, none⟩ = some (.int .i64 p.1) := B1_9.c 0 (of_decide_eq_true rfl)
      have c8_B1_1 : w9.cell? ⟨w.heap.size + 1, 1, none⟩ = some (.int .i64 p.2.1) := B1_9.c 1 (of_decide_eq_true rfl)
      have c8_B1_2 : w9.cell? ⟨w.heap.size + 1, 2, none⟩ = some (.int .i64 p.2.2.1) := B1_9.c 2 (of_decide_eq_true rfl)
      have c8_B1_3 : w9.cell? ⟨w.heap.size + 1, 3, none⟩ = some (.int .i64 p.2.2.2.1) := B1_9.c 3 (of_decide_eq_true rfl)
      have c8_B1_4 : w9.cell? ⟨w.heap.size + 1, 4, none⟩ = some (.int .i64 p.2.2.2.2.1) := B1_9.c 4 (of_decide_eq_true rfl)
      have c8_B1_5 : w9.cell? ⟨w.heap.size + 1, 5, none⟩ = some (.int .i64 p.2.2.2.2.2) := B1_9.c 5 (of_decide_eq_true rfl)
      have c8_B2 := f9.cell
      have c8_B6_0 : w9.cell? ⟨x2_0, 0, none⟩ = some (.int .i64 t0) := B6_9.c 0 (of_decide_eq_true rfl)
      have c8_B6_1 : w9.cell? ⟨x2_0, 1, none⟩ = some (.int .i64 t1) := B6_9.c 1 (of_decide_eq_true rfl)
      have c8_B6_2 : w9.cell? ⟨x2_0, 2, none⟩ = some (.int .i64 t2) := B6_9.c 2 (of_decide_eq_true rfl)
      have c8_B7_0 : w9.cell? ⟨x2_1, 0, none⟩ = some (.int .i64 y0) := B7_9.c 0 (of_decide_eq_true rfl)
      have c8_B7_1 : w9.cell? ⟨x2_1, 1, none⟩ = some (.int .i64 y1) := B7_9.c 1 (of_decide_eq_true rfl)
      have c8_B7_2 : w9.cell? ⟨x2_1, 2, none⟩ = some (.int .i64 y2) := B7_9.c 2 (of_decide_eq_true rfl)
      go_wp2_with fail
      refine (dAttitude_any w1.heap.size false p (t0, t1, t2, y0, y1, y2) _ f9).mono ?_
      rintro e w10 ⟨rfl, f10, k10⟩
      rw [hu] at f10 ⊢
      dsimp only at f10 ⊢
      have K10 : Below w.heap.size w w10 := k10.on K9 (by omega)
      have B0_10 : Arr w.heap.size [.int .i64 q.1, .int .i64 q.2.1, .int .i64 q.2.2.1, .int .i64 q.2.2.2] w10 := B0_9.kept k10 (Nat.ne_of_lt y86_B0)
      have B1_10 : Arr (w.heap.size + 1) [.int .i64 p.1, .int .i64 p.2.1, .int .i64 p.2.2.1, .int .i64 p.2.2.2.1, .int .i64 p.2.2.2.2.1, .int .i64 p.2.2.2.2.2] w10 := B1_9.kept k10 (Nat.ne_of_lt y86_B1)
      have B3_10 : Arr w2.heap.size [.int .i64 o0, .int .i64 o1, .int .i64 o2, .int .i64 o3] w10 := B3_9.kept k10 (Nat.ne_of_gt y87_B2)
      have B4_10 : Arr x1_0 [.int .i64 a0, .int .i64 a1, .int .i64 a2] w10 := B4_9.kept k10 (Nat.ne_of_gt s1_4)
      have B5_10 : Arr x1_1 [.int .i64 b0, .int .i64 b1, .int .i64 b2] w10 := B5_9.kept k10 (Nat.ne_of_gt s1_8)
      have B6_10 : Arr x2_0 [.int .i64 t0, .int .i64 t1, .int .i64 t2] w10 := B6_9.kept k10 (Nat.ne_of_gt s2_4)
      have B7_10 : Arr x2_1 [.int .i64 y0, .int .i64 y1, .int .i64 y2] w10 := B7_9.kept k10 (Nat.ne_of_gt s2_10)
      have z10 := B7_10.lies
      have z10_B4 := B4_10.lies
      have z10_B5 := B5_10.lies
      have z10_B6 := B6_10.lies
      clear c8_B1_0 c8_B1_1 c8_B1_2 c8_B1_3 c8_B1_4 c8_B1_5 c8_B2 c8_B6_0 c8_B6_1 c8_B6_2 c8_B7_0 c8_B7_1 c8_B7_2 K9 B0_9 B1_9 f9 B3_9 B4_9 B5_9 B6_9 B7_9 k10
      have y88_B0 : w.heap.size < w10.heap.size := B0_10.lies
      have y88_B1 : w.heap.size + 1 < w10.heap.size := B1_10.lies
      have y88_B2 : w1.heap.size < w10.heap.size := f10.lies
      have y88_B3 : w2.heap.size < w10.heap.size := B3_10.lies
      have y88_B4 : x1_0 < w10.heap.size := B4_10.lies
      have y88_B5 : x1_1 < w10.heap.size := B5_10.lies
      have y88_B6 : x2_0 < w10.heap.size := B6_10.lies
      have y88_B7 : x2_1 < w10.heap.size := B7_10.lies
      have y88_low : w.heap.size ≤ w10.heap.size := K10.size
      go_wp2_with fail
      rename_i K0 aK0
      have cont3 : ∀ (W3 : World) (t3_12 t3_15 t3_16 t3_17 t3_18 t3_19 t3_20 t3_21 t3_22 t3_23 t3_24 t3_25 t3_26 t3_27 t3_28 t3_29 t3_30 t3_31 t3_32 t3_33 t3_34 t3_35 t3_36 t3_37 t3_38 t3_39 t3_40 t3_41 t3_42 t3_43 t3_44 t3_45 t3_46 t3_47 t3_48 t3_49 t3_50 t3_51 t3_52 t3_53 t3_54 t3_55 t3_56 t3_57 t3_58 t3_59 t3_60 t3_61 t3_62 t3_63 t3_64 t3_65 t3_66 t3_67 t3_68 t3_69 t3_70 t3_71 t3_72 t3_73 t3_74 t3_75 t3_76 t3_77 t3_78 t3_79 : Value) (x3_0 : Nat) , Below w.heap.size w W3 → Arr w.heap.size [.int .i64 q.1, .int .i64 q.2.1, .int .i64 q.2.2.1, .int .i64 q.2.2.2] W3 → Arr (w.heap.size + 1) [.int .i64 p.1, .int .i64 p.2.1, .int .i64 p.2.2.1, .int .i64 p.2.2.2.1, .int .i64 p.2.2.2.2.1, .int .i64 p.2.2.2.2.2] W3 → Fl w1.heap.size false W3 → Arr w2.heap.size [.int .i64 o0, .int .i64 o1, .int .i64 o2, .int .i64 o3] W3 → Arr x1_0 [.int .i64 a0, .int .i64 a1, .int .i64 a2] W3 → Arr x1_1 [.int .i64 b0, .int .i64 b1, .int .i64 b2] W3 → Arr x2_0 [.int .i64 t0, .int .i64 t1, .int .i64 t2] W3 → Arr x2_1 [.int .i64 y0, .int .i64 y1, .int .i64 y2] W3 → Arr w10.heap.size [.int .i64 u0, .int .i64 u1, .int .i64 u2, .int .i64 u3] W3 → Arr x3_0 [.int .i64 x0, .int .i64 x1, .int .i64 x2, .int .i64 x3] W3 → w.heap.size ≤ x3_0 → w.heap.size < x3_0 → w.heap.size + 1 < x3_0 → w1.heap.size < x3_0 → w2.heap.size < x3_0 → x1_0 < x3_0 → x1_1 < x3_0 → x2_0 < x3_0 → x2_1 < x3_0 → w10.heap.size < x3_0 → K0 { tmps := #[.agg #[.int .i64 q.1, .int .i64 q.2.1, .int .i64 q.2.2.1, .int .i64 q.2.2.2], .agg #[.int .i64 p.1, .int .i64 p.2.1, .int .i64 p.2.2.1, .int .i64 p.2.2.2.1, .int .i64 p.2.2.2.2.1, .int .i64 p.2.2.2.2.2], .pointer (some ⟨w.heap.size, 0, none⟩), .pointer (some ⟨w.heap.size + 1, 0, none⟩), .bool false, .pointer (some ⟨w1.heap.size, 0, none⟩), .pointer (some ⟨w2.heap.size, 0, none⟩), .pointer (some ⟨x1_0, 0, none⟩), .pointer (some ⟨x1_1, 0, none⟩), .pointer (some ⟨x2_0, 0, none⟩), .pointer (some ⟨x2_1, 0, none⟩), .int .i64 s0, t3_12, .pointer (some ⟨w10.heap.size, 0, none⟩), .pointer (some ⟨x3_0, 0, none⟩), t3_15, t3_16, t3_17, t3_18, t3_19, t3_20, t3_21, t3_22, t3_23, t3_24, t3_25, t3_26, t3_27, t3_28, t3_29, t3_30, t3_31, t3_32, t3_33, t3_34, t3_35, t3_36, t3_37, t3_38, t3_39, t3_40, t3_41, t3_42, t3_43, t3_44, t3_45, t3_46, t3_47, t3_48, t3_49, t3_50, t3_51, t3_52, t3_53, t3_54, t3_55, t3_56, t3_57, t3_58, t3_59, t3_60, t3_61, t3_62, t3_63, t3_64, t3_65, t3_66, t3_67, t3_68, t3_69, t3_70, t3_71, t3_72, t3_73, t3_74, t3_75, t3_76, t3_77, t3_78, t3_79, undef, undef, undef, undef, undef, undef, undef, undef, undef, undef, undef, undef, undef, undef, undef, undef], defers := [] } W3 := by
        intro W3 t3_12 t3_15 t3_16 t3_17 t3_18 t3_19 t3_20 t3_21 t3_22 t3_23 t3_24 t3_25 t3_26 t3_27 t3_28 t3_29 t3_30 t3_31 t3_32 t3_33 t3_34 t3_35 t3_36 t3_37 t3_38 t3_39 t3_40 t3_41 t3_42 t3_43 t3_44 t3_45 t3_46 t3_47 t3_48 t3_49 t3_50 t3_51 t3_52 t3_53 t3_54 t3_55 t3_56 t3_57 t3_58 t3_59 t3_60 t3_61 t3_62 t3_63 t3_64 t3_65 t3_66 t3_67 t3_68 t3_69 t3_70 t3_71 t3_72 t3_73 t3_74 t3_75 t3_76 t3_77 t3_78 t3_79 x3_0 KC3 B0_c3 B1_c3 B2_c3 B3_c3 B4_c3 B5_c3 B6_c3 B7_c3 B8_c3 B9_c3 s3_0 s3_1 s3_2 s3_3 s3_4 s3_5 s3_6 s3_7 s3_8 s3_9
        have zc3_B0 := B0_c3.lies
        have zc3_B1 := B1_c3.lies
        have zc3_B2 := B2_c3.lies
        have zc3_B3 := B3_c3.lies
        have zc3_B4 := B4_c3.lies
        have zc3_B5 := B5_c3.lies
        have zc3_B6 := B6_c3.lies
        have zc3_B7 := B7_c3.lies
        have zc3_B8 := B8_c3.lies
        have zc3_B9 := B9_c3.lies
        apply aK0
        have c10_B2 := B2_c3.cell
        have c10_B9_0 : W3.cell? ⟨x3_0, 0, none⟩ = some (.int .i64 x0) := B9_c3.c 0 (of_decide_eq_true rfl)
        have c10_B9_1 : W3.cell? ⟨x3_0, 1, none⟩ = some (.int .i64 x1) := B9_c3.c 1 (of_decide_eq_true rfl)
        have c10_B9_2 : W3.cell? ⟨x3_0, 2, none⟩ = some (.int .i64 x2) := B9_c3.c 2 (of_decide_eq_true rfl)
        go_wp2_with fail
        refine (near5_any (x0, x1, x2) (0, 0, 0) _ (by first | omega | (dsimp only; omega)) (by first | omega | (dsimp only; omega)) (by first | omega | (dsimp only; omega))).mono ?_
        rintro e w13 ⟨rfl, k13⟩
        rw [hn]
        try dsimp only
        have K13 : Below w.heap.size w w13 := bel_then KC3 k13
        have B0_13 : Arr w.heap.size [.int .i64 q.1, .int .i64 q.2.1, .int .i64 q.2.2.1, .int .i64 q.2.2.2] w13 := B0_c3.below k13
        have B1_13 : Arr (w.heap.size + 1) [.int .i64 p.1, .int .i64 p.2.1, .int .i64 p.2.2.1, .int .i64 p.2.2.2.1, .int .i64 p.2.2.2.2.1, .int .i64 p.2.2.2.2.2] w13 := B1_c3.below k13
        have B2_13 : Fl w1.heap.size false w13 := B2_c3.below k13
        have B3_13 : Arr w2.heap.size [.int .i64 o0, .int .i64 o1, .int .i64 o2, .int .i64 o3] w13 := B3_c3.below k13
        have B4_13 : Arr x1_0 [.int .i64 a0, .int .i64 a1, .int .i64 a2] w13 := B4_c3.below k13
        have B5_13 : Arr x1_1 [.int .i64 b0, .int .i64 b1, .int .i64 b2] w13 := B5_c3.below k13
        have B6_13 : Arr x2_0 [.int .i64 t0, .int .i64 t1, .int .i64 t2] w13 := B6_c3.below k13
        have B7_13 : Arr x2_1 [.int .i64 y0, .int .i64 y1, .int .i64 y2] w13 := B7_c3.below k13
        have B8_13 : Arr w10.heap.size [.int .i64 u0, .int .i64 u1, .int .i64 u2, .int .i64 u3] w13 := B8_c3.below k13
        have B9_13 : Arr x3_0 [.int .i64 x0, .int .i64 x1, .int .i64 x2, .int .i64 x3] w13 := B9_c3.below k13
        have z13 := B9_13.lies
        have z13_B4 := B4_13.lies
        have z13_B5 := B5_13.lies
        have z13_B6 := B6_13.lies
        have z13_B7 := B7_13.lies
        clear c10_B2 c10_B9_0 c10_B9_1 c10_B9_2 B0_c3 B1_c3 B2_c3 B3_c3 B4_c3 B5_c3 B6_c3 B7_c3 B8_c3 B9_c3 k13
        go_wp2
        go_ret
        exact ⟨rfl, K13⟩
      refine wp_region_held_drew (S := fun w' => Arr w10.heap.size [.int .i64 u0, .int .i64 u1, .int .i64 u2, .int .i64 u3] w' ∧ Arr w2.heap.size [.int .i64 o0, .int .i64 o1, .int .i64 o2, .int .i64 o3] w') (by kernel_rfl) ⟨(Arr_at _ _ [.int .i64 u0, .int .i64 u1, .int .i64 u2, .int .i64 u3] _ (by simp)).drew, (B3_10.alloc _).drew⟩ (fun hHeld => ?_)
      refine take_at (i := 0) (v := ?v1) rfl (by kernel_rfl) (by kernel_rfl) (by kernel_rfl) (fun _ _ _ h => h) (Or.inl ⟨by rfl, ?y1⟩) hHeld ?t1
      case y1 => (intro wx hSw; go_simp <;> with_reducible rfl)
      simp only [Act.put, List.setIfInBounds_toArray, List.set_cons_zero, List.set_cons_succ]
      refine take_at (i := 1) (v := ?v2) rfl (by kernel_rfl) (by kernel_rfl) (by kernel_rfl) (fun _ _ _ h => h) (Or.inl ⟨by rfl, ?y2⟩) hHeld ?t2
      case y2 => (intro wx hSw; have hc0 : wx.cell? ⟨w10.heap.size, 0, none⟩ = some (.int .i64 u0) := hSw.1.c 0 (of_decide_eq_true rfl); have hc1 : wx.cell? ⟨w10.heap.size, 1, none⟩ = some (.int .i64 u1) := hSw.1.c 1 (of_decide_eq_true rfl); have hc2 : wx.cell? ⟨w10.heap.size, 2, none⟩ = some (.int .i64 u2) := hSw.1.c 2 (of_decide_eq_true rfl); have hc3 : wx.cell? ⟨w10.heap.size, 3, none⟩ = some (.int .i64 u3) := hSw.1.c 3 (of_decide_eq_true rfl); go_simp <;> with_reducible rfl)
      simp only [Act.put, List.setIfInBounds_toArray, List.set_cons_zero, List.set_cons_succ]
      refine take_at (i := 2) (v := ?v3) rfl (by kernel_rfl) (by kernel_rfl) (by kernel_rfl) (fun _ _ _ h => h) (Or.inl ⟨by rfl, ?y3⟩) hHeld ?t3
      case y3 => (intro wx hSw; have hc0 : wx.cell? ⟨w2.heap.size, 0, none⟩ = some (.int .i64 o0) := hSw.2.c 0 (of_decide_eq_true rfl); have hc1 : wx.cell? ⟨w2.heap.size, 1, none⟩ = some (.int .i64 o1) := hSw.2.c 1 (of_decide_eq_true rfl); have hc2 : wx.cell? ⟨w2.heap.size, 2, none⟩ = some (.int .i64 o2) := hSw.2.c 2 (of_decide_eq_true rfl); have hc3 : wx.cell? ⟨w2.heap.size, 3, none⟩ = some (.int .i64 o3) := hSw.2.c 3 (of_decide_eq_true rfl); go_simp <;> with_reducible rfl)
      simp only [Act.put, List.setIfInBounds_toArray, List.set_cons_zero, List.set_cons_succ]
      refine call_at2 (i0 := 3) (i1 := 5) (by kernel_rfl) rfl rfl (fun K hK => ?_) (fun K hK => ?_)
      · go_simp
        refine (qBack_any (o0, o1, o2, o3) _).mono ?_
        rintro e w11 ⟨rfl, k11⟩
        rw [hk]
        try dsimp only
        have K11 : Below w.heap.size w w11 := bel_then (Below.drew (bel_al K10 _)) k11
        have B0_11 : Arr w.heap.size [.int .i64 q.1, .int .i64 q.2.1, .int .i64 q.2.2.1, .int .i64 q.2.2.2] w11 := (B0_10.alloc _).drew.below k11
        have B1_11 : Arr (w.heap.size + 1) [.int .i64 p.1, .int .i64 p.2.1, .int .i64 p.2.2.1, .int .i64 p.2.2.2.1, .int .i64 p.2.2.2.2.1, .int .i64 p.2.2.2.2.2] w11 := (B1_10.alloc _).drew.below k11
        have B2_11 : Fl w1.heap.size false w11 := (f10.alloc _).drew.below k11
        have B3_11 : Arr w2.heap.size [.int .i64 o0, .int .i64 o1, .int .i64 o2, .int .i64 o3] w11 := (B3_10.alloc _).drew.below k11
        have B4_11 : Arr x1_0 [.int .i64 a0, .int .i64 a1, .int .i64 a2] w11 := (B4_10.alloc _).drew.below k11
        have B5_11 : Arr x1_1 [.int .i64 b0, .int .i64 b1, .int .i64 b2] w11 := (B5_10.alloc _).drew.below k11
        have B6_11 : Arr x2_0 [.int .i64 t0, .int .i64 t1, .int .i64 t2] w11 := (B6_10.alloc _).drew.below k11
        have B7_11 : Arr x2_1 [.int .i64 y0, .int .i64 y1, .int .i64 y2] w11 := (B7_10.alloc _).drew.below k11
        have B8_11 : Arr w10.heap.size [.int .i64 u0, .int .i64 u1, .int .i64 u2, .int .i64 u3] w11 := (Arr_at _ _ [.int .i64 u0, .int .i64 u1, .int .i64 u2, .int .i64 u3] _ (by simp)).drew.below k11
        have z11 := B8_11.lies
        have z11_B4 := B4_11.lies
        have z11_B5 := B5_11.lies
        have z11_B6 := B6_11.lies
        have z11_B7 := B7_11.lies
        clear hHeld
        refine hK.out _ _ ⟨B8_11, B3_11⟩ (fun hHeld => ?_)
        clear hK K K10 B0_10 B1_10 f10 B3_10 B4_10 B5_10 B6_10 B7_10 k11
        refine call_at2 (i0 := 4) (i1 := 5) (by kernel_rfl) rfl rfl (fun K hK => ?_) (fun K hK => ?_)
        · go_simp
          refine (qMul_any w1.heap.size false (u0, u1, u2, u3) ((-o0), (-o1), (-o2), o3) _ B2_11).mono ?_
          rintro e w12 ⟨rfl, f12, k12⟩
          rw [hx] at f12 ⊢
          dsimp only at f12 ⊢
          have K12 : Below w.heap.size w w12 := k12.on K11 (by omega)
          have B0_12 : Arr w.heap.size [.int .i64 q.1, .int .i64 q.2.1, .int .i64 q.2.2.1, .int .i64 q.2.2.2] w12 := B0_11.kept k12 (Nat.ne_of_lt y86_B0)
          have B1_12 : Arr (w.heap.size + 1) [.int .i64 p.1, .int .i64 p.2.1, .int .i64 p.2.2.1, .int .i64 p.2.2.2.1, .int .i64 p.2.2.2.2.1, .int .i64 p.2.2.2.2.2] w12 := B1_11.kept k12 (Nat.ne_of_lt y86_B1)
          have B3_12 : Arr w2.heap.size [.int .i64 o0, .int .i64 o1, .int .i64 o2, .int .i64 o3] w12 := B3_11.kept k12 (Nat.ne_of_gt y87_B2)
          have B4_12 : Arr x1_0 [.int .i64 a0, .int .i64 a1, .int .i64 a2] w12 := B4_11.kept k12 (Nat.ne_of_gt s1_4)
          have B5_12 : Arr x1_1 [.int .i64 b0, .int .i64 b1, .int .i64 b2] w12 := B5_11.kept k12 (Nat.ne_of_gt s1_8)
          have B6_12 : Arr x2_0 [.int .i64 t0, .int .i64 t1, .int .i64 t2] w12 := B6_11.kept k12 (Nat.ne_of_gt s2_4)
          have B7_12 : Arr x2_1 [.int .i64 y0, .int .i64 y1, .int .i64 y2] w12 := B7_11.kept k12 (Nat.ne_of_gt s2_10)
          have B8_12 : Arr w10.heap.size [.int .i64 u0, .int .i64 u1, .int .i64 u2, .int .i64 u3] w12 := B8_11.kept k12 (Nat.ne_of_gt y88_B2)
          have z12 := B8_12.lies
          have z12_B4 := B4_12.lies
          have z12_B5 := B5_12.lies
          have z12_B6 := B6_12.lies
          have z12_B7 := B7_12.lies
          clear hHeld
          refine hK.out _ _ ⟨B8_12, B3_12⟩ (fun hHeld => ?_)
          clear hK K K11 B0_11 B1_11 B2_11 B3_11 B4_11 B5_11 B6_11 B7_11 B8_11 k12
          refine call_at (i := 5) (by kernel_rfl) rfl (fun K hK => ?_)
          have y89_B0 : w.heap.size < w12.heap.size := B0_12.lies
          have y89_B1 : w.heap.size + 1 < w12.heap.size := B1_12.lies
          have y89_B2 : w1.heap.size < w12.heap.size := f12.lies
          have y89_B3 : w2.heap.size < w12.heap.size := B3_12.lies
          have y89_B4 : x1_0 < w12.heap.size := B4_12.lies
          have y89_B5 : x1_1 < w12.heap.size := B5_12.lies
          have y89_B6 : x2_0 < w12.heap.size := B6_12.lies
          have y89_B7 : x2_1 < w12.heap.size := B7_12.lies
          have y89_B8 : w10.heap.size < w12.heap.size := B8_12.lies
          have y89_low : w.heap.size ≤ w12.heap.size := K12.size
          go_simp
          clear hHeld
          refine hK.out _ _ ⟨(B8_12.alloc _), (B3_12.alloc _)⟩ (fun hHeld => ?_)
          clear hK K
          refine call_at (i := 6) (by kernel_rfl) rfl (fun K hK => ?_)
          go_simp
          clear hHeld
          refine hK.out _ _ ⟨(B8_12.alloc _), (B3_12.alloc _)⟩ (fun hHeld => ?_)
          clear hK K
          refine wpAnyH_done (by kernel_rfl) ?_ _
          clear hHeld
          exact cont3 _ _ _ _ _ _ _ _ _ _ _ _ _ _ _ _ _ _ _ _ _ _ _ _ _ _ _ _ _ _ _ _ _ _ _ _ _ _ _ _ _ _ _ _ _ _ _ _ _ _ _ _ _ _ _ _ _ _ _ _ _ _ _ _ _ _ _ w12.heap.size (bel_al K12 _) (B0_12.alloc _) (B1_12.alloc _) (f12.alloc _) (B3_12.alloc _) (B4_12.alloc _) (B5_12.alloc _) (B6_12.alloc _) (B7_12.alloc _) (B8_12.alloc _) (Arr_at _ _ [.int .i64 x0, .int .i64 x1, .int .i64 x2, .int .i64 x3] _ (by simp)) y89_low y89_B0 y89_B1 y89_B2 y89_B3 y89_B4 y89_B5 y89_B6 y89_B7 y89_B8
        · have y90_B0 : w.heap.size < w11.heap.size := B0_11.lies
          have y90_B1 : w.heap.size + 1 < w11.heap.size := B1_11.lies
          have y90_B2 : w1.heap.size < w11.heap.size := B2_11.lies
          have y90_B3 : w2.heap.size < w11.heap.size := B3_11.lies
          have y90_B4 : x1_0 < w11.heap.size := B4_11.lies
          have y90_B5 : x1_1 < w11.heap.size := B5_11.lies
          have y90_B6 : x2_0 < w11.heap.size := B6_11.lies
          have y90_B7 : x2_1 < w11.heap.size := B7_11.lies
          have y90_B8 : w10.heap.size < w11.heap.size := B8_11.lies
          have y90_low : w.heap.size ≤ w11.heap.size := K11.size
          go_simp
          clear hHeld
          refine hK.out _ _ ⟨(B8_11.alloc _), (B3_11.alloc _)⟩ (fun hHeld => ?_)
          clear hK K
          refine call_at (i := 4) (by kernel_rfl) rfl (fun K hK => ?_)
          go_simp
          refine (qMul_any w1.heap.size false (u0, u1, u2, u3) ((-o0), (-o1), (-o2), o3) _ (B2_11.alloc _)).mono ?_
          rintro e w12 ⟨rfl, f12, k12⟩
          rw [hx] at f12 ⊢
          dsimp only at f12 ⊢
          have K12 : Below w.heap.size w w12 := k12.on (bel_al K11 _) (by omega)
          have B0_12 : Arr w.heap.size [.int .i64 q.1, .int .i64 q.2.1, .int .i64 q.2.2.1, .int .i64 q.2.2.2] w12 := (B0_11.alloc _).kept k12 (Nat.ne_of_lt y86_B0)
          have B1_12 : Arr (w.heap.size + 1) [.int .i64 p.1, .int .i64 p.2.1, .int .i64 p.2.2.1, .int .i64 p.2.2.2.1, .int .i64 p.2.2.2.2.1, .int .i64 p.2.2.2.2.2] w12 := (B1_11.alloc _).kept k12 (Nat.ne_of_lt y86_B1)
          have B3_12 : Arr w2.heap.size [.int .i64 o0, .int .i64 o1, .int .i64 o2, .int .i64 o3] w12 := (B3_11.alloc _).kept k12 (Nat.ne_of_gt y87_B2)
          have B4_12 : Arr x1_0 [.int .i64 a0, .int .i64 a1, .int .i64 a2] w12 := (B4_11.alloc _).kept k12 (Nat.ne_of_gt s1_4)
          have B5_12 : Arr x1_1 [.int .i64 b0, .int .i64 b1, .int .i64 b2] w12 := (B5_11.alloc _).kept k12 (Nat.ne_of_gt s1_8)
          have B6_12 : Arr x2_0 [.int .i64 t0, .int .i64 t1, .int .i64 t2] w12 := (B6_11.alloc _).kept k12 (Nat.ne_of_gt s2_4)
          have B7_12 : Arr x2_1 [.int .i64 y0, .int .i64 y1, .int .i64 y2] w12 := (B7_11.alloc _).kept k12 (Nat.ne_of_gt s2_10)
          have B8_12 : Arr w10.heap.size [.int .i64 u0, .int .i64 u1, .int .i64 u2, .int .i64 u3] w12 := (B8_11.alloc _).kept k12 (Nat.ne_of_gt y88_B2)
          have B9_12 : Arr w11.heap.size [.int .i64 0, .int .i64 0, .int .i64 0, .int .i64 0] w12 := (Arr_at _ _ [.int .i64 0, .int .i64 0, .int .i64 0, .int .i64 0] _ (by simp)).kept k12 (Nat.ne_of_gt y90_B2)
          have z12 := B9_12.lies
          have z12_B4 := B4_12.lies
          have z12_B5 := B5_12.lies
          have z12_B6 := B6_12.lies
          have z12_B7 := B7_12.lies
          clear hHeld
          refine hK.out _ _ ⟨B8_12, B3_12⟩ (fun hHeld => ?_)
          clear hK K K11 B0_11 B1_11 B2_11 B3_11 B4_11 B5_11 B6_11 B7_11 B8_11 k12
          refine call_at (i := 6) (by kernel_rfl) rfl (fun K hK => ?_)
          have c11_B9_0 : w12.cell? ⟨w11.heap.size, 0, none⟩ = some (.int .i64 0) := B9_12.c 0 (of_decide_eq_true rfl)
          have c11_B9_1 : w12.cell? ⟨w11.heap.size, 1, none⟩ = some (.int .i64 0) := B9_12.c 1 (of_decide_eq_true rfl)
          have c11_B9_2 : w12.cell? ⟨w11.heap.size, 2, none⟩ = some (.int .i64 0) := B9_12.c 2 (of_decide_eq_true rfl)
          have c11_B9_3 : w12.cell? ⟨w11.heap.size, 3, none⟩ = some (.int .i64 0) := B9_12.c 3 (of_decide_eq_true rfl)
          have g11_B9_0 := B9_12.f 0 (of_decide_eq_true rfl)
          have g11_B9_1 := B9_12.f 1 (of_decide_eq_true rfl)
          have g11_B9_2 := B9_12.f 2 (of_decide_eq_true rfl)
          have g11_B9_3 := B9_12.f 3 (of_decide_eq_true rfl)
          go_simp
          clear hHeld
          refine hK.out _ _ ⟨((((B8_12.new w11.heap.size 0 (Nat.ne_of_lt y90_B8) (.int .i64 x0)).new w11.heap.size 1 (Nat.ne_of_lt y90_B8) (.int .i64 x1)).new w11.heap.size 2 (Nat.ne_of_lt y90_B8) (.int .i64 x2)).new w11.heap.size 3 (Nat.ne_of_lt y90_B8) (.int .i64 x3)), ((((B3_12.new w11.heap.size 0 (Nat.ne_of_lt y90_B3) (.int .i64 x0)).new w11.heap.size 1 (Nat.ne_of_lt y90_B3) (.int .i64 x1)).new w11.heap.size 2 (Nat.ne_of_lt y90_B3) (.int .i64 x2)).new w11.heap.size 3 (Nat.ne_of_lt y90_B3) (.int .i64 x3))⟩ (fun hHeld => ?_)
          clear hK K c11_B9_0 c11_B9_1 c11_B9_2 c11_B9_3 g11_B9_0 g11_B9_1 g11_B9_2 g11_B9_3
          refine wpAnyH_done (by kernel_rfl) ?_ _
          clear hHeld
          exact cont3 _ _ _ _ _ _ _ _ _ _ _ _ _ _ _ _ _ _ _ _ _ _ _ _ _ _ _ _ _ _ _ _ _ _ _ _ _ _ _ _ _ _ _ _ _ _ _ _ _ _ _ _ _ _ _ _ _ _ _ _ _ _ _ _ _ _ _ w11.heap.size (bel_new (bel_new (bel_new (bel_new K12 _ _ y90_low _) _ _ y90_low _) _ _ y90_low _) _ _ y90_low _) ((((B0_12.new w11.heap.size 0 (Nat.ne_of_lt y90_B0) (.int .i64 x0)).new w11.heap.size 1 (Nat.ne_of_lt y90_B0) (.int .i64 x1)).new w11.heap.size 2 (Nat.ne_of_lt y90_B0) (.int .i64 x2)).new w11.heap.size 3 (Nat.ne_of_lt y90_B0) (.int .i64 x3)) ((((B1_12.new w11.heap.size 0 (Nat.ne_of_lt y90_B1) (.int .i64 x0)).new w11.heap.size 1 (Nat.ne_of_lt y90_B1) (.int .i64 x1)).new w11.heap.size 2 (Nat.ne_of_lt y90_B1) (.int .i64 x2)).new w11.heap.size 3 (Nat.ne_of_lt y90_B1) (.int .i64 x3)) ((((f12.new w11.heap.size 0 (Nat.ne_of_lt y90_B2) (.int .i64 x0)).new w11.heap.size 1 (Nat.ne_of_lt y90_B2) (.int .i64 x1)).new w11.heap.size 2 (Nat.ne_of_lt y90_B2) (.int .i64 x2)).new w11.heap.size 3 (Nat.ne_of_lt y90_B2) (.int .i64 x3)) ((((B3_12.new w11.heap.size 0 (Nat.ne_of_lt y90_B3) (.int .i64 x0)).new w11.heap.size 1 (Nat.ne_of_lt y90_B3) (.int .i64 x1)).new w11.heap.size 2 (Nat.ne_of_lt y90_B3) (.int .i64 x2)).new w11.heap.size 3 (Nat.ne_of_lt y90_B3) (.int .i64 x3)) ((((B4_12.new w11.heap.size 0 (Nat.ne_of_lt y90_B4) (.int .i64 x0)).new w11.heap.size 1 (Nat.ne_of_lt y90_B4) (.int .i64 x1)).new w11.heap.size 2 (Nat.ne_of_lt y90_B4) (.int .i64 x2)).new w11.heap.size 3 (Nat.ne_of_lt y90_B4) (.int .i64 x3)) ((((B5_12.new w11.heap.size 0 (Nat.ne_of_lt y90_B5) (.int .i64 x0)).new w11.heap.size 1 (Nat.ne_of_lt y90_B5) (.int .i64 x1)).new w11.heap.size 2 (Nat.ne_of_lt y90_B5) (.int .i64 x2)).new w11.heap.size 3 (Nat.ne_of_lt y90_B5) (.int .i64 x3)) ((((B6_12.new w11.heap.size 0 (Nat.ne_of_lt y90_B6) (.int .i64 x0)).new w11.heap.size 1 (Nat.ne_of_lt y90_B6) (.int .i64 x1)).new w11.heap.size 2 (Nat.ne_of_lt y90_B6) (.int .i64 x2)).new w11.heap.size 3 (Nat.ne_of_lt y90_B6) (.int .i64 x3)) ((((B7_12.new w11.heap.size 0 (Nat.ne_of_lt y90_B7) (.int .i64 x0)).new w11.heap.size 1 (Nat.ne_of_lt y90_B7) (.int .i64 x1)).new w11.heap.size 2 (Nat.ne_of_lt y90_B7) (.int .i64 x2)).new w11.heap.size 3 (Nat.ne_of_lt y90_B7) (.int .i64 x3)) ((((B8_12.new w11.heap.size 0 (Nat.ne_of_lt y90_B8) (.int .i64 x0)).new w11.heap.size 1 (Nat.ne_of_lt y90_B8) (.int .i64 x1)).new w11.heap.size 2 (Nat.ne_of_lt y90_B8) (.int .i64 x2)).new w11.heap.size 3 (Nat.ne_of_lt y90_B8) (.int .i64 x3)) ((((B9_12.put 0 (of_decide_eq_true rfl) (.int .i64 x0) [.int .i64 x0, .int .i64 0, .int .i64 0, .int .i64 0] rfl).put 1 (of_decide_eq_true rfl) (.int .i64 x1) [.int .i64 x0, .int .i64 x1, .int .i64 0, .int .i64 0] rfl).put 2 (of_decide_eq_true rfl) (.int .i64 x2) [.int .i64 x0, .int .i64 x1, .int .i64 x2, .int .i64 0] rfl).put 3 (of_decide_eq_true rfl) (.int .i64 x3) [.int .i64 x0, .int .i64 x1, .int .i64 x2, .int .i64 x3] rfl) y90_low y90_B0 y90_B1 y90_B2 y90_B3 y90_B4 y90_B5 y90_B6 y90_B7 y90_B8
      · have y91_B0 : w.heap.size < w10.heap.size + 1 := (Nat.lt_succ_of_lt B0_10.lies)
        have y91_B1 : w.heap.size + 1 < w10.heap.size + 1 := (Nat.lt_succ_of_lt B1_10.lies)
        have y91_B2 : w1.heap.size < w10.heap.size + 1 := (Nat.lt_succ_of_lt f10.lies)
        have y91_B3 : w2.heap.size < w10.heap.size + 1 := (Nat.lt_succ_of_lt B3_10.lies)
        have y91_B4 : x1_0 < w10.heap.size + 1 := (Nat.lt_succ_of_lt B4_10.lies)
        have y91_B5 : x1_1 < w10.heap.size + 1 := (Nat.lt_succ_of_lt B5_10.lies)
        have y91_B6 : x2_0 < w10.heap.size + 1 := (Nat.lt_succ_of_lt B6_10.lies)
        have y91_B7 : x2_1 < w10.heap.size + 1 := (Nat.lt_succ_of_lt B7_10.lies)
        have y91_B8 : w10.heap.size < w10.heap.size + 1 := (Nat.lt_succ_self _)
        have y91_low : w.heap.size ≤ w10.heap.size + 1 := (Nat.le_succ_of_le K10.size)
        go_simp
        clear hHeld
        refine hK.out _ _ ⟨((Arr_at _ _ [.int .i64 u0, .int .i64 u1, .int .i64 u2, .int .i64 u3] _ (by simp)).alloc _).drew, ((B3_10.alloc _).alloc _).drew⟩ (fun hHeld => ?_)
        clear hK K
        refine call_at (i := 3) (by kernel_rfl) rfl (fun K hK => ?_)
        go_simp
        refine (qBack_any (o0, o1, o2, o3) _).mono ?_
        rintro e w11 ⟨rfl, k11⟩
        rw [hk]
        try dsimp only
        have K11 : Below w.heap.size w w11 := bel_then (Below.drew (bel_al (bel_al K10 _) _)) k11
        have B0_11 : Arr w.heap.size [.int .i64 q.1, .int .i64 q.2.1, .int .i64 q.2.2.1, .int .i64 q.2.2.2] w11 := ((B0_10.alloc _).alloc _).drew.below k11
        have B1_11 : Arr (w.heap.size + 1) [.int .i64 p.1, .int .i64 p.2.1, .int .i64 p.2.2.1, .int .i64 p.2.2.2.1, .int .i64 p.2.2.2.2.1, .int .i64 p.2.2.2.2.2] w11 := ((B1_10.alloc _).alloc _).drew.below k11
        have B2_11 : Fl w1.heap.size false w11 := ((f10.alloc _).alloc _).drew.below k11
        have B3_11 : Arr w2.heap.size [.int .i64 o0, .int .i64 o1, .int .i64 o2, .int .i64 o3] w11 := ((B3_10.alloc _).alloc _).drew.below k11
        have B4_11 : Arr x1_0 [.int .i64 a0, .int .i64 a1, .int .i64 a2] w11 := ((B4_10.alloc _).alloc _).drew.below k11
        have B5_11 : Arr x1_1 [.int .i64 b0, .int .i64 b1, .int .i64 b2] w11 := ((B5_10.alloc _).alloc _).drew.below k11
        have B6_11 : Arr x2_0 [.int .i64 t0, .int .i64 t1, .int .i64 t2] w11 := ((B6_10.alloc _).alloc _).drew.below k11
        have B7_11 : Arr x2_1 [.int .i64 y0, .int .i64 y1, .int .i64 y2] w11 := ((B7_10.alloc _).alloc _).drew.below k11
        have B8_11 : Arr w10.heap.size [.int .i64 u0, .int .i64 u1, .int .i64 u2, .int .i64 u3] w11 := ((Arr_at _ _ [.int .i64 u0, .int .i64 u1, .int .i64 u2, .int .i64 u3] _ (by simp)).alloc _).drew.below k11
        have B9_11 : Arr (w10.heap.size + 1) [.int .i64 0, .int .i64 0, .int .i64 0, .int .i64 0] w11 := (Arr_at _ _ [.int .i64 0, .int .i64 0, .int .i64 0, .int .i64 0] _ (by simp)).drew.below k11
        have z11 := B9_11.lies
        have z11_B4 := B4_11.lies
        have z11_B5 := B5_11.lies
        have z11_B6 := B6_11.lies
        have z11_B7 := B7_11.lies
        clear hHeld
        refine hK.out _ _ ⟨B8_11, B3_11⟩ (fun hHeld => ?_)
        clear hK K K10 B0_10 B1_10 f10 B3_10 B4_10 B5_10 B6_10 B7_10 k11
        refine call_at (i := 4) (by kernel_rfl) rfl (fun K hK => ?_)
        go_simp
        refine (qMul_any w1.heap.size false (u0, u1, u2, u3) ((-o0), (-o1), (-o2), o3) _ B2_11).mono ?_
        rintro e w12 ⟨rfl, f12, k12⟩
        rw [hx] at f12 ⊢
        dsimp only at f12 ⊢
        have K12 : Below w.heap.size w w12 := k12.on K11 (by omega)
        have B0_12 : Arr w.heap.size [.int .i64 q.1, .int .i64 q.2.1, .int .i64 q.2.2.1, .int .i64 q.2.2.2] w12 := B0_11.kept k12 (Nat.ne_of_lt y86_B0)
        have B1_12 : Arr (w.heap.size + 1) [.int .i64 p.1, .int .i64 p.2.1, .int .i64 p.2.2.1, .int .i64 p.2.2.2.1, .int .i64 p.2.2.2.2.1, .int .i64 p.2.2.2.2.2] w12 := B1_11.kept k12 (Nat.ne_of_lt y86_B1)
        have B3_12 : Arr w2.heap.size [.int .i64 o0, .int .i64 o1, .int .i64 o2, .int .i64 o3] w12 := B3_11.kept k12 (Nat.ne_of_gt y87_B2)
        have B4_12 : Arr x1_0 [.int .i64 a0, .int .i64 a1, .int .i64 a2] w12 := B4_11.kept k12 (Nat.ne_of_gt s1_4)
        have B5_12 : Arr x1_1 [.int .i64 b0, .int .i64 b1, .int .i64 b2] w12 := B5_11.kept k12 (Nat.ne_of_gt s1_8)
        have B6_12 : Arr x2_0 [.int .i64 t0, .int .i64 t1, .int .i64 t2] w12 := B6_11.kept k12 (Nat.ne_of_gt s2_4)
        have B7_12 : Arr x2_1 [.int .i64 y0, .int .i64 y1, .int .i64 y2] w12 := B7_11.kept k12 (Nat.ne_of_gt s2_10)
        have B8_12 : Arr w10.heap.size [.int .i64 u0, .int .i64 u1, .int .i64 u2, .int .i64 u3] w12 := B8_11.kept k12 (Nat.ne_of_gt y88_B2)
        have B9_12 : Arr (w10.heap.size + 1) [.int .i64 0, .int .i64 0, .int .i64 0, .int .i64 0] w12 := B9_11.kept k12 (Nat.ne_of_gt y91_B2)
        have z12 := B9_12.lies
        have z12_B4 := B4_12.lies
        have z12_B5 := B5_12.lies
        have z12_B6 := B6_12.lies
        have z12_B7 := B7_12.lies
        clear hHeld
        refine hK.out _ _ ⟨B8_12, B3_12⟩ (fun hHeld => ?_)
        clear hK K K11 B0_11 B1_11 B2_11 B3_11 B4_11 B5_11 B6_11 B7_11 B8_11 B9_11 k12
        refine call_at (i := 6) (by kernel_rfl) rfl (fun K hK => ?_)
        have c11_B9_0 : w12.cell? ⟨w10.heap.size + 1, 0, none⟩ = some (.int .i64 0) := B9_12.c 0 (of_decide_eq_true rfl)
        have c11_B9_1 : w12.cell? ⟨w10.heap.size + 1, 1, none⟩ = some (.int .i64 0) := B9_12.c 1 (of_decide_eq_true rfl)
        have c11_B9_2 : w12.cell? ⟨w10.heap.size + 1, 2, none⟩ = some (.int .i64 0) := B9_12.c 2 (of_decide_eq_true rfl)
        have c11_B9_3 : w12.cell? ⟨w10.heap.size + 1, 3, none⟩ = some (.int .i64 0) := B9_12.c 3 (of_decide_eq_true rfl)
        have g11_B9_0 := B9_12.f 0 (of_decide_eq_true rfl)
        have g11_B9_1 := B9_12.f 1 (of_decide_eq_true rfl)
        have g11_B9_2 := B9_12.f 2 (of_decide_eq_true rfl)
        have g11_B9_3 := B9_12.f 3 (of_decide_eq_true rfl)
        go_simp
        clear hHeld
        refine hK.out _ _ ⟨((((B8_12.new (w10.heap.size + 1) 0 (Nat.ne_of_lt y91_B8) (.int .i64 x0)).new (w10.heap.size + 1) 1 (Nat.ne_of_lt y91_B8) (.int .i64 x1)).new (w10.heap.size + 1) 2 (Nat.ne_of_lt y91_B8) (.int .i64 x2)).new (w10.heap.size + 1) 3 (Nat.ne_of_lt y91_B8) (.int .i64 x3)), ((((B3_12.new (w10.heap.size + 1) 0 (Nat.ne_of_lt y91_B3) (.int .i64 x0)).new (w10.heap.size + 1) 1 (Nat.ne_of_lt y91_B3) (.int .i64 x1)).new (w10.heap.size + 1) 2 (Nat.ne_of_lt y91_B3) (.int .i64 x2)).new (w10.heap.size + 1) 3 (Nat.ne_of_lt y91_B3) (.int .i64 x3))⟩ (fun hHeld => ?_)
        clear hK K c11_B9_0 c11_B9_1 c11_B9_2 c11_B9_3 g11_B9_0 g11_B9_1 g11_B9_2 g11_B9_3
        refine wpAnyH_done (by kernel_rfl) ?_ _
        clear hHeld
        exact cont3 _ _ _ _ _ _ _ _ _ _ _ _ _ _ _ _ _ _ _ _ _ _ _ _ _ _ _ _ _ _ _ _ _ _ _ _ _ _ _ _ _ _ _ _ _ _ _ _ _ _ _ _ _ _ _ _ _ _ _ _ _ _ _ _ _ _ _ (w10.heap.size + 1) (bel_new (bel_new (bel_new (bel_new K12 _ _ y91_low _) _ _ y91_low _) _ _ y91_low _) _ _ y91_low _) ((((B0_12.new (w10.heap.size + 1) 0 (Nat.ne_of_lt y91_B0) (.int .i64 x0)).new (w10.heap.size + 1) 1 (Nat.ne_of_lt y91_B0) (.int .i64 x1)).new (w10.heap.size + 1) 2 (Nat.ne_of_lt y91_B0) (.int .i64 x2)).new (w10.heap.size + 1) 3 (Nat.ne_of_lt y91_B0) (.int .i64 x3)) ((((B1_12.new (w10.heap.size + 1) 0 (Nat.ne_of_lt y91_B1) (.int .i64 x0)).new (w10.heap.size + 1) 1 (Nat.ne_of_lt y91_B1) (.int .i64 x1)).new (w10.heap.size + 1) 2 (Nat.ne_of_lt y91_B1) (.int .i64 x2)).new (w10.heap.size + 1) 3 (Nat.ne_of_lt y91_B1) (.int .i64 x3)) ((((f12.new (w10.heap.size + 1) 0 (Nat.ne_of_lt y91_B2) (.int .i64 x0)).new (w10.heap.size + 1) 1 (Nat.ne_of_lt y91_B2) (.int .i64 x1)).new (w10.heap.size + 1) 2 (Nat.ne_of_lt y91_B2) (.int .i64 x2)).new (w10.heap.size + 1) 3 (Nat.ne_of_lt y91_B2) (.int .i64 x3)) ((((B3_12.new (w10.heap.size + 1) 0 (Nat.ne_of_lt y91_B3) (.int .i64 x0)).new (w10.heap.size + 1) 1 (Nat.ne_of_lt y91_B3) (.int .i64 x1)).new (w10.heap.size + 1) 2 (Nat.ne_of_lt y91_B3) (.int .i64 x2)).new (w10.heap.size + 1) 3 (Nat.ne_of_lt y91_B3) (.int .i64 x3)) ((((B4_12.new (w10.heap.size + 1) 0 (Nat.ne_of_lt y91_B4) (.int .i64 x0)).new (w10.heap.size + 1) 1 (Nat.ne_of_lt y91_B4) (.int .i64 x1)).new (w10.heap.size + 1) 2 (Nat.ne_of_lt y91_B4) (.int .i64 x2)).new (w10.heap.size + 1) 3 (Nat.ne_of_lt y91_B4) (.int .i64 x3)) ((((B5_12.new (w10.heap.size + 1) 0 (Nat.ne_of_lt y91_B5) (.int .i64 x0)).new (w10.heap.size + 1) 1 (Nat.ne_of_lt y91_B5) (.int .i64 x1)).new (w10.heap.size + 1) 2 (Nat.ne_of_lt y91_B5) (.int .i64 x2)).new (w10.heap.size + 1) 3 (Nat.ne_of_lt y91_B5) (.int .i64 x3)) ((((B6_12.new (w10.heap.size + 1) 0 (Nat.ne_of_lt y91_B6) (.int .i64 x0)).new (w10.heap.size + 1) 1 (Nat.ne_of_lt y91_B6) (.int .i64 x1)).new (w10.heap.size + 1) 2 (Nat.ne_of_lt y91_B6) (.int .i64 x2)).new (w10.heap.size + 1) 3 (Nat.ne_of_lt y91_B6) (.int .i64 x3)) ((((B7_12.new (w10.heap.size + 1) 0 (Nat.ne_of_lt y91_B7) (.int .i64 x0)).new (w10.heap.size + 1) 1 (Nat.ne_of_lt y91_B7) (.int .i64 x1)).new (w10.heap.size + 1) 2 (Nat.ne_of_lt y91_B7) (.int .i64 x2)).new (w10.heap.size + 1) 3 (Nat.ne_of_lt y91_B7) (.int .i64 x3)) ((((B8_12.new (w10.heap.size + 1) 0 (Nat.ne_of_lt y91_B8) (.int .i64 x0)).new (w10.heap.size + 1) 1 (Nat.ne_of_lt y91_B8) (.int .i64 x1)).new (w10.heap.size + 1) 2 (Nat.ne_of_lt y91_B8) (.int .i64 x2)).new (w10.heap.size + 1) 3 (Nat.ne_of_lt y91_B8) (.int .i64 x3)) ((((B9_12.put 0 (of_decide_eq_true rfl) (.int .i64 x0) [.int .i64 x0, .int .i64 0, .int .i64 0, .int .i64 0] rfl).put 1 (of_decide_eq_true rfl) (.int .i64 x1) [.int .i64 x0, .int .i64 x1, .int .i64 0, .int .i64 0] rfl).put 2 (of_decide_eq_true rfl) (.int .i64 x2) [.int .i64 x0, .int .i64 x1, .int .i64 x2, .int .i64 0] rfl).put 3 (of_decide_eq_true rfl) (.int .i64 x3) [.int .i64 x0, .int .i64 x1, .int .i64 x2, .int .i64 x3] rfl) y91_low y91_B0 y91_B1 y91_B2 y91_B3 y91_B4 y91_B5 y91_B6 y91_B7 y91_B8
    refine wp_region_held_drew (S := fun w' => Arr w2.heap.size [.int .i64 o0, .int .i64 o1, .int .i64 o2, .int .i64 o3] w' ∧ Arr x1_0 [.int .i64 a0, .int .i64 a1, .int .i64 a2] w' ∧ Arr x1_1 [.int .i64 b0, .int .i64 b1, .int .i64 b2] w') (by kernel_rfl) ⟨B3_c1.drew, B4_c1.drew, B5_c1.drew⟩ (fun hHeld => ?_)
    refine take_at (i := 0) (v := ?v4) rfl (by kernel_rfl) (by kernel_rfl) (by kernel_rfl) (fun _ _ _ h => h) (Or.inl ⟨by rfl, ?y4⟩) hHeld ?t4
    case y4 => (intro wx hSw; go_simp <;> with_reducible rfl)
    simp only [Act.put, List.setIfInBounds_toArray, List.set_cons_zero, List.set_cons_succ]
    refine take_at (i := 1) (v := ?v5) rfl (by kernel_rfl) (by kernel_rfl) (by kernel_rfl) (fun _ _ _ h => h) (Or.inl ⟨by rfl, ?y5⟩) hHeld ?t5
    case y5 => (intro wx hSw; have hc0 : wx.cell? ⟨w2.heap.size, 0, none⟩ = some (.int .i64 o0) := hSw.1.c 0 (of_decide_eq_true rfl); have hc1 : wx.cell? ⟨w2.heap.size, 1, none⟩ = some (.int .i64 o1) := hSw.1.c 1 (of_decide_eq_true rfl); have hc2 : wx.cell? ⟨w2.heap.size, 2, none⟩ = some (.int .i64 o2) := hSw.1.c 2 (of_decide_eq_true rfl); have hc3 : wx.cell? ⟨w2.heap.size, 3, none⟩ = some (.int .i64 o3) := hSw.1.c 3 (of_decide_eq_true rfl); go_simp <;> with_reducible rfl)
    simp only [Act.put, List.setIfInBounds_toArray, List.set_cons_zero, List.set_cons_succ]
    refine take_at (i := 2) (v := ?v6) rfl (by kernel_rfl) (by kernel_rfl) (by kernel_rfl) (fun _ _ _ h => h) (Or.inl ⟨by rfl, ?y6⟩) hHeld ?t6
    case y6 => (intro wx hSw; have hc0 : wx.cell? ⟨x1_0, 0, none⟩ = some (.int .i64 a0) := hSw.2.1.c 0 (of_decide_eq_true rfl); have hc1 : wx.cell? ⟨x1_0, 1, none⟩ = some (.int .i64 a1) := hSw.2.1.c 1 (of_decide_eq_true rfl); have hc2 : wx.cell? ⟨x1_0, 2, none⟩ = some (.int .i64 a2) := hSw.2.1.c 2 (of_decide_eq_true rfl); go_simp <;> with_reducible rfl)
    simp only [Act.put, List.setIfInBounds_toArray, List.set_cons_zero, List.set_cons_succ]
    refine take_at (i := 4) (v := ?v7) rfl (by kernel_rfl) (by kernel_rfl) (by kernel_rfl) (fun _ _ _ h => h) (Or.inl ⟨by rfl, ?y7⟩) hHeld ?t7
    case y7 => (intro wx hSw; go_simp <;> with_reducible rfl)
    simp only [Act.put, List.setIfInBounds_toArray, List.set_cons_zero, List.set_cons_succ]
    refine take_at (i := 5) (v := ?v8) rfl (by kernel_rfl) (by kernel_rfl) (by kernel_rfl) (fun _ _ _ h => h) (Or.inl ⟨by rfl, ?y8⟩) hHeld ?t8
    case y8 => (intro wx hSw; have hc0 : wx.cell? ⟨w2.heap.size, 0, none⟩ = some (.int .i64 o0) := hSw.1.c 0 (of_decide_eq_true rfl); have hc1 : wx.cell? ⟨w2.heap.size, 1, none⟩ = some (.int .i64 o1) := hSw.1.c 1 (of_decide_eq_true rfl); have hc2 : wx.cell? ⟨w2.heap.size, 2, none⟩ = some (.int .i64 o2) := hSw.1.c 2 (of_decide_eq_true rfl); have hc3 : wx.cell? ⟨w2.heap.size, 3, none⟩ = some (.int .i64 o3) := hSw.1.c 3 (of_decide_eq_true rfl); go_simp <;> with_reducible rfl)
    simp only [Act.put, List.setIfInBounds_toArray, List.set_cons_zero, List.set_cons_succ]
    refine take_at (i := 6) (v := ?v9) rfl (by kernel_rfl) (by kernel_rfl) (by kernel_rfl) (fun _ _ _ h => h) (Or.inl ⟨by rfl, ?y9⟩) hHeld ?t9
    case y9 => (intro wx hSw; have hc0 : wx.cell? ⟨x1_1, 0, none⟩ = some (.int .i64 b0) := hSw.2.2.c 0 (of_decide_eq_true rfl); have hc1 : wx.cell? ⟨x1_1, 1, none⟩ = some (.int .i64 b1) := hSw.2.2.c 1 (of_decide_eq_true rfl); have hc2 : wx.cell? ⟨x1_1, 2, none⟩ = some (.int .i64 b2) := hSw.2.2.c 2 (of_decide_eq_true rfl); go_simp <;> with_reducible rfl)
    simp only [Act.put, List.setIfInBounds_toArray, List.set_cons_zero, List.set_cons_succ]
    refine call_at3 (i0 := 3) (i1 := 8) (i2 := 9) (by kernel_rfl) rfl rfl rfl (fun K hK => ?_) (fun K hK => ?_) (fun K hK => ?_)
    · go_simp
      refine (qTurn_any w1.heap.size false (o0, o1, o2, o3) (a0, a1, a2) _ B2_c1.drew).mono ?_
      rintro e w7 ⟨rfl, f7, k7⟩
      rw [ht] at f7 ⊢
      dsimp only at f7 ⊢
      have K7 : Below w.heap.size w w7 := k7.on (Below.drew KC1) (by omega)
      have B0_7 : Arr w.heap.size [.int .i64 q.1, .int .i64 q.2.1, .int .i64 q.2.2.1, .int .i64 q.2.2.2] w7 := B0_c1.drew.kept k7 (Nat.ne_of_lt y86_B0)
      have B1_7 : Arr (w.heap.size + 1) [.int .i64 p.1, .int .i64 p.2.1, .int .i64 p.2.2.1, .int .i64 p.2.2.2.1, .int .i64 p.2.2.2.2.1, .int .i64 p.2.2.2.2.2] w7 := B1_c1.drew.kept k7 (Nat.ne_of_lt y86_B1)
      have B3_7 : Arr w2.heap.size [.int .i64 o0, .int .i64 o1, .int .i64 o2, .int .i64 o3] w7 := B3_c1.drew.kept k7 (Nat.ne_of_gt y87_B2)
      have B4_7 : Arr x1_0 [.int .i64 a0, .int .i64 a1, .int .i64 a2] w7 := B4_c1.drew.kept k7 (Nat.ne_of_gt s1_4)
      have B5_7 : Arr x1_1 [.int .i64 b0, .int .i64 b1, .int .i64 b2] w7 := B5_c1.drew.kept k7 (Nat.ne_of_gt s1_8)
      have z7 := B5_7.lies
      have z7_B4 := B4_7.lies
      clear hHeld
      refine hK.out _ _ ⟨B3_7, B4_7, B5_7⟩ (fun hHeld => ?_)
      clear hK K B0_c1 B1_c1 B2_c1 B3_c1 B4_c1 B5_c1 k7
      refine call_at3 (i0 := 7) (i1 := 8) (i2 := 9) (by kernel_rfl) rfl rfl rfl (fun K hK => ?_) (fun K hK => ?_) (fun K hK => ?_)
      · go_simp
        refine (qTurn_any w1.heap.size false (o0, o1, o2, o3) (b0, b1, b2) _ f7).mono ?_
        rintro e w8 ⟨rfl, f8, k8⟩
        rw [hy] at f8 ⊢
        dsimp only at f8 ⊢
        have K8 : Below w.heap.size w w8 := k8.on K7 (by omega)
        have B0_8 : Arr w.heap.size [.int .i64 q.1, .int .i64 q.2.1, .int .i64 q.2.2.1, .int .i64 q.2.2.2] w8 := B0_7.kept k8 (Nat.ne_of_lt y86_B0)
        have B1_8 : Arr (w.heap.size + 1) [.int .i64 p.1, .int .i64 p.2.1, .int .i64 p.2.2.1, .int .i64 p.2.2.2.1, .int .i64 p.2.2.2.2.1, .int .i64 p.2.2.2.2.2] w8 := B1_7.kept k8 (Nat.ne_of_lt y86_B1)
        have B3_8 : Arr w2.heap.size [.int .i64 o0, .int .i64 o1, .int .i64 o2, .int .i64 o3] w8 := B3_7.kept k8 (Nat.ne_of_gt y87_B2)
        have B4_8 : Arr x1_0 [.int .i64 a0, .int .i64 a1, .int .i64 a2] w8 := B4_7.kept k8 (Nat.ne_of_gt s1_4)
        have B5_8 : Arr x1_1 [.int .i64 b0, .int .i64 b1, .int .i64 b2] w8 := B5_7.kept k8 (Nat.ne_of_gt s1_8)
        have z8 := B5_8.lies
        have z8_B4 := B4_8.lies
        clear hHeld
        refine hK.out _ _ ⟨B3_8, B4_8, B5_8⟩ (fun hHeld => ?_)
        clear hK K K7 B0_7 B1_7 f7 B3_7 B4_7 B5_7 k8
        refine call_at2 (i0 := 8) (i1 := 9) (by kernel_rfl) rfl rfl (fun K hK => ?_) (fun K hK => ?_)
        · have y92_B0 : w.heap.size < w8.heap.size := B0_8.lies
          have y92_B1 : w.heap.size + 1 < w8.heap.size := B1_8.lies
          have y92_B2 : w1.heap.size < w8.heap.size := f8.lies
          have y92_B3 : w2.heap.size < w8.heap.size := B3_8.lies
          have y92_B4 : x1_0 < w8.heap.size := B4_8.lies
          have y92_B5 : x1_1 < w8.heap.size := B5_8.lies
          have y92_low : w.heap.size ≤ w8.heap.size := K8.size
          go_simp
          clear hHeld
          refine hK.out _ _ ⟨(B3_8.alloc _), (B4_8.alloc _), (B5_8.alloc _)⟩ (fun hHeld => ?_)
          clear hK K
          refine call_at (i := 9) (by kernel_rfl) rfl (fun K hK => ?_)
          have y93_B0 : w.heap.size < w8.heap.size + 1 := (Nat.lt_succ_of_lt B0_8.lies)
          have y93_B1 : w.heap.size + 1 < w8.heap.size + 1 := (Nat.lt_succ_of_lt B1_8.lies)
          have y93_B2 : w1.heap.size < w8.heap.size + 1 := (Nat.lt_succ_of_lt f8.lies)
          have y93_B3 : w2.heap.size < w8.heap.size + 1 := (Nat.lt_succ_of_lt B3_8.lies)
          have y93_B4 : x1_0 < w8.heap.size + 1 := (Nat.lt_succ_of_lt B4_8.lies)
          have y93_B5 : x1_1 < w8.heap.size + 1 := (Nat.lt_succ_of_lt B5_8.lies)
          have y93_B6 : w8.heap.size < w8.heap.size + 1 := (Nat.lt_succ_self _)
          have y93_low : w.heap.size ≤ w8.heap.size + 1 := (Nat.le_succ_of_le K8.size)
          go_simp
          clear hHeld
          refine hK.out _ _ ⟨((B3_8.alloc _).alloc _), ((B4_8.alloc _).alloc _), ((B5_8.alloc _).alloc _)⟩ (fun hHeld => ?_)
          clear hK K
          refine call_at (i := 10) (by kernel_rfl) rfl (fun K hK => ?_)
          go_simp
          clear hHeld
          refine hK.out _ _ ⟨((B3_8.alloc _).alloc _), ((B4_8.alloc _).alloc _), ((B5_8.alloc _).alloc _)⟩ (fun hHeld => ?_)
          clear hK K
          refine call_at (i := 11) (by kernel_rfl) rfl (fun K hK => ?_)
          go_simp
          clear hHeld
          refine hK.out _ _ ⟨((B3_8.alloc _).alloc _), ((B4_8.alloc _).alloc _), ((B5_8.alloc _).alloc _)⟩ (fun hHeld => ?_)
          clear hK K
          refine wpAnyH_done (by kernel_rfl) ?_ _
          clear hHeld
          exact cont2 _ _ _ _ _ _ _ _ _ _ _ _ _ _ _ _ _ _ _ _ _ _ _ _ _ _ _ _ _ _ _ _ _ _ _ _ _ _ _ _ w8.heap.size (w8.heap.size + 1) (bel_al (bel_al K8 _) _) ((B0_8.alloc _).alloc _) ((B1_8.alloc _).alloc _) ((f8.alloc _).alloc _) ((B3_8.alloc _).alloc _) ((B4_8.alloc _).alloc _) ((B5_8.alloc _).alloc _) ((Arr_at _ _ [.int .i64 t0, .int .i64 t1, .int .i64 t2] _ (by simp)).alloc _) (Arr_at _ _ [.int .i64 y0, .int .i64 y1, .int .i64 y2] _ (by simp)) y92_low y93_low y92_B0 y92_B1 y92_B2 y92_B3 y92_B4 y92_B5 y93_B0 y93_B1 y93_B2 y93_B3 y93_B4 y93_B5 (Nat.ne_of_lt y93_B6)
        · have y94_B0 : w.heap.size < w8.heap.size := B0_8.lies
          have y94_B1 : w.heap.size + 1 < w8.heap.size := B1_8.lies
          have y94_B2 : w1.heap.size < w8.heap.size := f8.lies
          have y94_B3 : w2.heap.size < w8.heap.size := B3_8.lies
          have y94_B4 : x1_0 < w8.heap.size := B4_8.lies
          have y94_B5 : x1_1 < w8.heap.size := B5_8.lies
          have y94_low : w.heap.size ≤ w8.heap.size := K8.size
          go_simp
          clear hHeld
          refine hK.out _ _ ⟨(B3_8.alloc _), (B4_8.alloc _), (B5_8.alloc _)⟩ (fun hHeld => ?_)
          clear hK K
          refine call_at (i := 8) (by kernel_rfl) rfl (fun K hK => ?_)
          have y95_B0 : w.heap.size < w8.heap.size + 1 := (Nat.lt_succ_of_lt B0_8.lies)
          have y95_B1 : w.heap.size + 1 < w8.heap.size + 1 := (Nat.lt_succ_of_lt B1_8.lies)
          have y95_B2 : w1.heap.size < w8.heap.size + 1 := (Nat.lt_succ_of_lt f8.lies)
          have y95_B3 : w2.heap.size < w8.heap.size + 1 := (Nat.lt_succ_of_lt B3_8.lies)
          have y95_B4 : x1_0 < w8.heap.size + 1 := (Nat.lt_succ_of_lt B4_8.lies)
          have y95_B5 : x1_1 < w8.heap.size + 1 := (Nat.lt_succ_of_lt B5_8.lies)
          have y95_B6 : w8.heap.size < w8.heap.size + 1 := (Nat.lt_succ_self _)
          have y95_low : w.heap.size ≤ w8.heap.size + 1 := (Nat.le_succ_of_le K8.size)
          go_simp
          clear hHeld
          refine hK.out _ _ ⟨((B3_8.alloc _).alloc _), ((B4_8.alloc _).alloc _), ((B5_8.alloc _).alloc _)⟩ (fun hHeld => ?_)
          clear hK K
          refine call_at (i := 10) (by kernel_rfl) rfl (fun K hK => ?_)
          go_simp
          clear hHeld
          refine hK.out _ _ ⟨((B3_8.alloc _).alloc _), ((B4_8.alloc _).alloc _), ((B5_8.alloc _).alloc _)⟩ (fun hHeld => ?_)
          clear hK K
          refine call_at (i := 11) (by kernel_rfl) rfl (fun K hK => ?_)
          go_simp
          clear hHeld
          refine hK.out _ _ ⟨((B3_8.alloc _).alloc _), ((B4_8.alloc _).alloc _), ((B5_8.alloc _).alloc _)⟩ (fun hHeld => ?_)
          clear hK K
          refine wpAnyH_done (by kernel_rfl) ?_ _
          clear hHeld
          exact cont2 _ _ _ _ _ _ _ _ _ _ _ _ _ _ _ _ _ _ _ _ _ _ _ _ _ _ _ _ _ _ _ _ _ _ _ _ _ _ _ _ (w8.heap.size + 1) w8.heap.size (bel_al (bel_al K8 _) _) ((B0_8.alloc _).alloc _) ((B1_8.alloc _).alloc _) ((f8.alloc _).alloc _) ((B3_8.alloc _).alloc _) ((B4_8.alloc _).alloc _) ((B5_8.alloc _).alloc _) (Arr_at _ _ [.int .i64 t0, .int .i64 t1, .int .i64 t2] _ (by simp)) ((Arr_at _ _ [.int .i64 y0, .int .i64 y1, .int .i64 y2] _ (by simp)).alloc _) y95_low y94_low y95_B0 y95_B1 y95_B2 y95_B3 y95_B4 y95_B5 y94_B0 y94_B1 y94_B2 y94_B3 y94_B4 y94_B5 (Nat.ne_of_gt y95_B6)
      · have y96_B0 : w.heap.size < w7.heap.size := B0_7.lies
        have y96_B1 : w.heap.size + 1 < w7.heap.size := B1_7.lies
        have y96_B2 : w1.heap.size < w7.heap.size := f7.lies
        have y96_B3 : w2.heap.size < w7.heap.size := B3_7.lies
        have y96_B4 : x1_0 < w7.heap.size := B4_7.lies
        have y96_B5 : x1_1 < w7.heap.size := B5_7.lies
        have y96_low : w.heap.size ≤ w7.heap.size := K7.size
        go_simp
        clear hHeld
        refine hK.out _ _ ⟨(B3_7.alloc _), (B4_7.alloc _), (B5_7.alloc _)⟩ (fun hHeld => ?_)
        clear hK K
        refine call_at2 (i0 := 7) (i1 := 9) (by kernel_rfl) rfl rfl (fun K hK => ?_) (fun K hK => ?_)
        · go_simp
          refine (qTurn_any w1.heap.size false (o0, o1, o2, o3) (b0, b1, b2) _ (f7.alloc _)).mono ?_
          rintro e w8 ⟨rfl, f8, k8⟩
          rw [hy] at f8 ⊢
          dsimp only at f8 ⊢
          have K8 : Below w.heap.size w w8 := k8.on (bel_al K7 _) (by omega)
          have B0_8 : Arr w.heap.size [.int .i64 q.1, .int .i64 q.2.1, .int .i64 q.2.2.1, .int .i64 q.2.2.2] w8 := (B0_7.alloc _).kept k8 (Nat.ne_of_lt y86_B0)
          have B1_8 : Arr (w.heap.size + 1) [.int .i64 p.1, .int .i64 p.2.1, .int .i64 p.2.2.1, .int .i64 p.2.2.2.1, .int .i64 p.2.2.2.2.1, .int .i64 p.2.2.2.2.2] w8 := (B1_7.alloc _).kept k8 (Nat.ne_of_lt y86_B1)
          have B3_8 : Arr w2.heap.size [.int .i64 o0, .int .i64 o1, .int .i64 o2, .int .i64 o3] w8 := (B3_7.alloc _).kept k8 (Nat.ne_of_gt y87_B2)
          have B4_8 : Arr x1_0 [.int .i64 a0, .int .i64 a1, .int .i64 a2] w8 := (B4_7.alloc _).kept k8 (Nat.ne_of_gt s1_4)
          have B5_8 : Arr x1_1 [.int .i64 b0, .int .i64 b1, .int .i64 b2] w8 := (B5_7.alloc _).kept k8 (Nat.ne_of_gt s1_8)
          have B6_8 : Arr w7.heap.size [.int .i64 0, .int .i64 0, .int .i64 0] w8 := (Arr_at _ _ [.int .i64 0, .int .i64 0, .int .i64 0] _ (by simp)).kept k8 (Nat.ne_of_gt y96_B2)
          have z8 := B6_8.lies
          have z8_B4 := B4_8.lies
          have z8_B5 := B5_8.lies
          clear hHeld
          refine hK.out _ _ ⟨B3_8, B4_8, B5_8⟩ (fun hHeld => ?_)
          clear hK K K7 B0_7 B1_7 f7 B3_7 B4_7 B5_7 k8
          refine call_at (i := 9) (by kernel_rfl) rfl (fun K hK => ?_)
          have y97_B0 : w.heap.size < w8.heap.size := B0_8.lies
          have y97_B1 : w.heap.size + 1 < w8.heap.size := B1_8.lies
          have y97_B2 : w1.heap.size < w8.heap.size := f8.lies
          have y97_B3 : w2.heap.size < w8.heap.size := B3_8.lies
          have y97_B4 : x1_0 < w8.heap.size := B4_8.lies
          have y97_B5 : x1_1 < w8.heap.size := B5_8.lies
          have y97_B6 : w7.heap.size < w8.heap.size := B6_8.lies
          have y97_low : w.heap.size ≤ w8.heap.size := K8.size
          go_simp
          clear hHeld
          refine hK.out _ _ ⟨(B3_8.alloc _), (B4_8.alloc _), (B5_8.alloc _)⟩ (fun hHeld => ?_)
          clear hK K
          refine call_at (i := 10) (by kernel_rfl) rfl (fun K hK => ?_)
          have c9_B6_0 : w8.cell? ⟨w7.heap.size, 0, none⟩ = some (.int .i64 0) := B6_8.c 0 (of_decide_eq_true rfl)
          have c9_B6_1 : w8.cell? ⟨w7.heap.size, 1, none⟩ = some (.int .i64 0) := B6_8.c 1 (of_decide_eq_true rfl)
          have c9_B6_2 : w8.cell? ⟨w7.heap.size, 2, none⟩ = some (.int .i64 0) := B6_8.c 2 (of_decide_eq_true rfl)
          have g9_B6_0 := B6_8.f 0 (of_decide_eq_true rfl)
          have g9_B6_1 := B6_8.f 1 (of_decide_eq_true rfl)
          have g9_B6_2 := B6_8.f 2 (of_decide_eq_true rfl)
          have l9_B6 := B6_8.lies
          go_simp
          clear hHeld
          refine hK.out _ _ ⟨((((B3_8.new w7.heap.size 0 (Nat.ne_of_lt y96_B3) (.int .i64 t0)).new w7.heap.size 1 (Nat.ne_of_lt y96_B3) (.int .i64 t1)).new w7.heap.size 2 (Nat.ne_of_lt y96_B3) (.int .i64 t2)).alloc _), ((((B4_8.new w7.heap.size 0 (Nat.ne_of_lt y96_B4) (.int .i64 t0)).new w7.heap.size 1 (Nat.ne_of_lt y96_B4) (.int .i64 t1)).new w7.heap.size 2 (Nat.ne_of_lt y96_B4) (.int .i64 t2)).alloc _), ((((B5_8.new w7.heap.size 0 (Nat.ne_of_lt y96_B5) (.int .i64 t0)).new w7.heap.size 1 (Nat.ne_of_lt y96_B5) (.int .i64 t1)).new w7.heap.size 2 (Nat.ne_of_lt y96_B5) (.int .i64 t2)).alloc _)⟩ (fun hHeld => ?_)
          clear hK K c9_B6_0 c9_B6_1 c9_B6_2 g9_B6_0 g9_B6_1 g9_B6_2 l9_B6
          refine call_at (i := 11) (by kernel_rfl) rfl (fun K hK => ?_)
          go_simp
          clear hHeld
          refine hK.out _ _ ⟨((((B3_8.new w7.heap.size 0 (Nat.ne_of_lt y96_B3) (.int .i64 t0)).new w7.heap.size 1 (Nat.ne_of_lt y96_B3) (.int .i64 t1)).new w7.heap.size 2 (Nat.ne_of_lt y96_B3) (.int .i64 t2)).alloc _), ((((B4_8.new w7.heap.size 0 (Nat.ne_of_lt y96_B4) (.int .i64 t0)).new w7.heap.size 1 (Nat.ne_of_lt y96_B4) (.int .i64 t1)).new w7.heap.size 2 (Nat.ne_of_lt y96_B4) (.int .i64 t2)).alloc _), ((((B5_8.new w7.heap.size 0 (Nat.ne_of_lt y96_B5) (.int .i64 t0)).new w7.heap.size 1 (Nat.ne_of_lt y96_B5) (.int .i64 t1)).new w7.heap.size 2 (Nat.ne_of_lt y96_B5) (.int .i64 t2)).alloc _)⟩ (fun hHeld => ?_)
          clear hK K
          refine wpAnyH_done (by kernel_rfl) ?_ _
          clear hHeld
          exact cont2 _ _ _ _ _ _ _ _ _ _ _ _ _ _ _ _ _ _ _ _ _ _ _ _ _ _ _ _ _ _ _ _ _ _ _ _ _ _ _ _ w7.heap.size w8.heap.size (bel_al (bel_new (bel_new (bel_new K8 _ _ y96_low _) _ _ y96_low _) _ _ y96_low _) _) ((((B0_8.new w7.heap.size 0 (Nat.ne_of_lt y96_B0) (.int .i64 t0)).new w7.heap.size 1 (Nat.ne_of_lt y96_B0) (.int .i64 t1)).new w7.heap.size 2 (Nat.ne_of_lt y96_B0) (.int .i64 t2)).alloc _) ((((B1_8.new w7.heap.size 0 (Nat.ne_of_lt y96_B1) (.int .i64 t0)).new w7.heap.size 1 (Nat.ne_of_lt y96_B1) (.int .i64 t1)).new w7.heap.size 2 (Nat.ne_of_lt y96_B1) (.int .i64 t2)).alloc _) ((((f8.new w7.heap.size 0 (Nat.ne_of_lt y96_B2) (.int .i64 t0)).new w7.heap.size 1 (Nat.ne_of_lt y96_B2) (.int .i64 t1)).new w7.heap.size 2 (Nat.ne_of_lt y96_B2) (.int .i64 t2)).alloc _) ((((B3_8.new w7.heap.size 0 (Nat.ne_of_lt y96_B3) (.int .i64 t0)).new w7.heap.size 1 (Nat.ne_of_lt y96_B3) (.int .i64 t1)).new w7.heap.size 2 (Nat.ne_of_lt y96_B3) (.int .i64 t2)).alloc _) ((((B4_8.new w7.heap.size 0 (Nat.ne_of_lt y96_B4) (.int .i64 t0)).new w7.heap.size 1 (Nat.ne_of_lt y96_B4) (.int .i64 t1)).new w7.heap.size 2 (Nat.ne_of_lt y96_B4) (.int .i64 t2)).alloc _) ((((B5_8.new w7.heap.size 0 (Nat.ne_of_lt y96_B5) (.int .i64 t0)).new w7.heap.size 1 (Nat.ne_of_lt y96_B5) (.int .i64 t1)).new w7.heap.size 2 (Nat.ne_of_lt y96_B5) (.int .i64 t2)).alloc _) ((((B6_8.put 0 (of_decide_eq_true rfl) (.int .i64 t0) [.int .i64 t0, .int .i64 0, .int .i64 0] rfl).put 1 (of_decide_eq_true rfl) (.int .i64 t1) [.int .i64 t0, .int .i64 t1, .int .i64 0] rfl).put 2 (of_decide_eq_true rfl) (.int .i64 t2) [.int .i64 t0, .int .i64 t1, .int .i64 t2] rfl).alloc _) (Arr_at _ _ [.int .i64 y0, .int .i64 y1, .int .i64 y2] _ (by simp)) y96_low y97_low y96_B0 y96_B1 y96_B2 y96_B3 y96_B4 y96_B5 y97_B0 y97_B1 y97_B2 y97_B3 y97_B4 y97_B5 (Nat.ne_of_lt y97_B6)
        · have y98_B0 : w.heap.size < w7.heap.size + 1 := (Nat.lt_succ_of_lt B0_7.lies)
          have y98_B1 : w.heap.size + 1 < w7.heap.size + 1 := (Nat.lt_succ_of_lt B1_7.lies)
          have y98_B2 : w1.heap.size < w7.heap.size + 1 := (Nat.lt_succ_of_lt f7.lies)
          have y98_B3 : w2.heap.size < w7.heap.size + 1 := (Nat.lt_succ_of_lt B3_7.lies)
          have y98_B4 : x1_0 < w7.heap.size + 1 := (Nat.lt_succ_of_lt B4_7.lies)
          have y98_B5 : x1_1 < w7.heap.size + 1 := (Nat.lt_succ_of_lt B5_7.lies)
          have y98_B6 : w7.heap.size < w7.heap.size + 1 := (Nat.lt_succ_self _)
          have y98_low : w.heap.size ≤ w7.heap.size + 1 := (Nat.le_succ_of_le K7.size)
          go_simp
          clear hHeld
          refine hK.out _ _ ⟨((B3_7.alloc _).alloc _), ((B4_7.alloc _).alloc _), ((B5_7.alloc _).alloc _)⟩ (fun hHeld => ?_)
          clear hK K
          refine call_at (i := 7) (by kernel_rfl) rfl (fun K hK => ?_)
          go_simp
          refine (qTurn_any w1.heap.size false (o0, o1, o2, o3) (b0, b1, b2) _ ((f7.alloc _).alloc _)).mono ?_
          rintro e w8 ⟨rfl, f8, k8⟩
          rw [hy] at f8 ⊢
          dsimp only at f8 ⊢
          have K8 : Below w.heap.size w w8 := k8.on (bel_al (bel_al K7 _) _) (by omega)
          have B0_8 : Arr w.heap.size [.int .i64 q.1, .int .i64 q.2.1, .int .i64 q.2.2.1, .int .i64 q.2.2.2] w8 := ((B0_7.alloc _).alloc _).kept k8 (Nat.ne_of_lt y86_B0)
          have B1_8 : Arr (w.heap.size + 1) [.int .i64 p.1, .int .i64 p.2.1, .int .i64 p.2.2.1, .int .i64 p.2.2.2.1, .int .i64 p.2.2.2.2.1, .int .i64 p.2.2.2.2.2] w8 := ((B1_7.alloc _).alloc _).kept k8 (Nat.ne_of_lt y86_B1)
          have B3_8 : Arr w2.heap.size [.int .i64 o0, .int .i64 o1, .int .i64 o2, .int .i64 o3] w8 := ((B3_7.alloc _).alloc _).kept k8 (Nat.ne_of_gt y87_B2)
          have B4_8 : Arr x1_0 [.int .i64 a0, .int .i64 a1, .int .i64 a2] w8 := ((B4_7.alloc _).alloc _).kept k8 (Nat.ne_of_gt s1_4)
          have B5_8 : Arr x1_1 [.int .i64 b0, .int .i64 b1, .int .i64 b2] w8 := ((B5_7.alloc _).alloc _).kept k8 (Nat.ne_of_gt s1_8)
          have B6_8 : Arr w7.heap.size [.int .i64 0, .int .i64 0, .int .i64 0] w8 := ((Arr_at _ _ [.int .i64 0, .int .i64 0, .int .i64 0] _ (by simp)).alloc _).kept k8 (Nat.ne_of_gt y96_B2)
          have B7_8 : Arr (w7.heap.size + 1) [.int .i64 0, .int .i64 0, .int .i64 0] w8 := (Arr_at _ _ [.int .i64 0, .int .i64 0, .int .i64 0] _ (by simp)).kept k8 (Nat.ne_of_gt y98_B2)
          have z8 := B7_8.lies
          have z8_B4 := B4_8.lies
          have z8_B5 := B5_8.lies
          clear hHeld
          refine hK.out _ _ ⟨B3_8, B4_8, B5_8⟩ (fun hHeld => ?_)
          clear hK K K7 B0_7 B1_7 f7 B3_7 B4_7 B5_7 k8
          refine call_at (i := 10) (by kernel_rfl) rfl (fun K hK => ?_)
          have c9_B6_0 : w8.cell? ⟨w7.heap.size, 0, none⟩ = some (.int .i64 0) := B6_8.c 0 (of_decide_eq_true rfl)
          have c9_B6_1 : w8.cell? ⟨w7.heap.size, 1, none⟩ = some (.int .i64 0) := B6_8.c 1 (of_decide_eq_true rfl)
          have c9_B6_2 : w8.cell? ⟨w7.heap.size, 2, none⟩ = some (.int .i64 0) := B6_8.c 2 (of_decide_eq_true rfl)
          have g9_B6_0 := B6_8.f 0 (of_decide_eq_true rfl)
          have g9_B6_1 := B6_8.f 1 (of_decide_eq_true rfl)
          have g9_B6_2 := B6_8.f 2 (of_decide_eq_true rfl)
          go_simp
          clear hHeld
          refine hK.out _ _ ⟨(((B3_8.new w7.heap.size 0 (Nat.ne_of_lt y96_B3) (.int .i64 t0)).new w7.heap.size 1 (Nat.ne_of_lt y96_B3) (.int .i64 t1)).new w7.heap.size 2 (Nat.ne_of_lt y96_B3) (.int .i64 t2)), (((B4_8.new w7.heap.size 0 (Nat.ne_of_lt y96_B4) (.int .i64 t0)).new w7.heap.size 1 (Nat.ne_of_lt y96_B4) (.int .i64 t1)).new w7.heap.size 2 (Nat.ne_of_lt y96_B4) (.int .i64 t2)), (((B5_8.new w7.heap.size 0 (Nat.ne_of_lt y96_B5) (.int .i64 t0)).new w7.heap.size 1 (Nat.ne_of_lt y96_B5) (.int .i64 t1)).new w7.heap.size 2 (Nat.ne_of_lt y96_B5) (.int .i64 t2))⟩ (fun hHeld => ?_)
          clear hK K c9_B6_0 c9_B6_1 c9_B6_2 g9_B6_0 g9_B6_1 g9_B6_2
          refine call_at (i := 11) (by kernel_rfl) rfl (fun K hK => ?_)
          have c10_B7_0 : w8.cell? ⟨w7.heap.size + 1, 0, none⟩ = some (.int .i64 0) := B7_8.c 0 (of_decide_eq_true rfl)
          have c10_B7_1 : w8.cell? ⟨w7.heap.size + 1, 1, none⟩ = some (.int .i64 0) := B7_8.c 1 (of_decide_eq_true rfl)
          have c10_B7_2 : w8.cell? ⟨w7.heap.size + 1, 2, none⟩ = some (.int .i64 0) := B7_8.c 2 (of_decide_eq_true rfl)
          have g10_B7_0 := B7_8.f 0 (of_decide_eq_true rfl)
          have g10_B7_1 := B7_8.f 1 (of_decide_eq_true rfl)
          have g10_B7_2 := B7_8.f 2 (of_decide_eq_true rfl)
          go_simp
          clear hHeld
          refine hK.out _ _ ⟨((((((B3_8.new w7.heap.size 0 (Nat.ne_of_lt y96_B3) (.int .i64 t0)).new w7.heap.size 1 (Nat.ne_of_lt y96_B3) (.int .i64 t1)).new w7.heap.size 2 (Nat.ne_of_lt y96_B3) (.int .i64 t2)).new (w7.heap.size + 1) 0 (Nat.ne_of_lt y98_B3) (.int .i64 y0)).new (w7.heap.size + 1) 1 (Nat.ne_of_lt y98_B3) (.int .i64 y1)).new (w7.heap.size + 1) 2 (Nat.ne_of_lt y98_B3) (.int .i64 y2)), ((((((B4_8.new w7.heap.size 0 (Nat.ne_of_lt y96_B4) (.int .i64 t0)).new w7.heap.size 1 (Nat.ne_of_lt y96_B4) (.int .i64 t1)).new w7.heap.size 2 (Nat.ne_of_lt y96_B4) (.int .i64 t2)).new (w7.heap.size + 1) 0 (Nat.ne_of_lt y98_B4) (.int .i64 y0)).new (w7.heap.size + 1) 1 (Nat.ne_of_lt y98_B4) (.int .i64 y1)).new (w7.heap.size + 1) 2 (Nat.ne_of_lt y98_B4) (.int .i64 y2)), ((((((B5_8.new w7.heap.size 0 (Nat.ne_of_lt y96_B5) (.int .i64 t0)).new w7.heap.size 1 (Nat.ne_of_lt y96_B5) (.int .i64 t1)).new w7.heap.size 2 (Nat.ne_of_lt y96_B5) (.int .i64 t2)).new (w7.heap.size + 1) 0 (Nat.ne_of_lt y98_B5) (.int .i64 y0)).new (w7.heap.size + 1) 1 (Nat.ne_of_lt y98_B5) (.int .i64 y1)).new (w7.heap.size + 1) 2 (Nat.ne_of_lt y98_B5) (.int .i64 y2))⟩ (fun hHeld => ?_)
          clear hK K c10_B7_0 c10_B7_1 c10_B7_2 g10_B7_0 g10_B7_1 g10_B7_2
          refine wpAnyH_done (by kernel_rfl) ?_ _
          clear hHeld
          exact cont2 _ _ _ _ _ _ _ _ _ _ _ _ _ _ _ _ _ _ _ _ _ _ _ _ _ _ _ _ _ _ _ _ _ _ _ _ _ _ _ _ w7.heap.size (w7.heap.size + 1) (bel_new (bel_new (bel_new (bel_new (bel_new (bel_new K8 _ _ y96_low _) _ _ y96_low _) _ _ y96_low _) _ _ y98_low _) _ _ y98_low _) _ _ y98_low _) ((((((B0_8.new w7.heap.size 0 (Nat.ne_of_lt y96_B0) (.int .i64 t0)).new w7.heap.size 1 (Nat.ne_of_lt y96_B0) (.int .i64 t1)).new w7.heap.size 2 (Nat.ne_of_lt y96_B0) (.int .i64 t2)).new (w7.heap.size + 1) 0 (Nat.ne_of_lt y98_B0) (.int .i64 y0)).new (w7.heap.size + 1) 1 (Nat.ne_of_lt y98_B0) (.int .i64 y1)).new (w7.heap.size + 1) 2 (Nat.ne_of_lt y98_B0) (.int .i64 y2)) ((((((B1_8.new w7.heap.size 0 (Nat.ne_of_lt y96_B1) (.int .i64 t0)).new w7.heap.size 1 (Nat.ne_of_lt y96_B1) (.int .i64 t1)).new w7.heap.size 2 (Nat.ne_of_lt y96_B1) (.int .i64 t2)).new (w7.heap.size + 1) 0 (Nat.ne_of_lt y98_B1) (.int .i64 y0)).new (w7.heap.size + 1) 1 (Nat.ne_of_lt y98_B1) (.int .i64 y1)).new (w7.heap.size + 1) 2 (Nat.ne_of_lt y98_B1) (.int .i64 y2)) ((((((f8.new w7.heap.size 0 (Nat.ne_of_lt y96_B2) (.int .i64 t0)).new w7.heap.size 1 (Nat.ne_of_lt y96_B2) (.int .i64 t1)).new w7.heap.size 2 (Nat.ne_of_lt y96_B2) (.int .i64 t2)).new (w7.heap.size + 1) 0 (Nat.ne_of_lt y98_B2) (.int .i64 y0)).new (w7.heap.size + 1) 1 (Nat.ne_of_lt y98_B2) (.int .i64 y1)).new (w7.heap.size + 1) 2 (Nat.ne_of_lt y98_B2) (.int .i64 y2)) ((((((B3_8.new w7.heap.size 0 (Nat.ne_of_lt y96_B3) (.int .i64 t0)).new w7.heap.size 1 (Nat.ne_of_lt y96_B3) (.int .i64 t1)).new w7.heap.size 2 (Nat.ne_of_lt y96_B3) (.int .i64 t2)).new (w7.heap.size + 1) 0 (Nat.ne_of_lt y98_B3) (.int .i64 y0)).new (w7.heap.size + 1) 1 (Nat.ne_of_lt y98_B3) (.int .i64 y1)).new (w7.heap.size + 1) 2 (Nat.ne_of_lt y98_B3) (.int .i64 y2)) ((((((B4_8.new w7.heap.size 0 (Nat.ne_of_lt y96_B4) (.int .i64 t0)).new w7.heap.size 1 (Nat.ne_of_lt y96_B4) (.int .i64 t1)).new w7.heap.size 2 (Nat.ne_of_lt y96_B4) (.int .i64 t2)).new (w7.heap.size + 1) 0 (Nat.ne_of_lt y98_B4) (.int .i64 y0)).new (w7.heap.size + 1) 1 (Nat.ne_of_lt y98_B4) (.int .i64 y1)).new (w7.heap.size + 1) 2 (Nat.ne_of_lt y98_B4) (.int .i64 y2)) ((((((B5_8.new w7.heap.size 0 (Nat.ne_of_lt y96_B5) (.int .i64 t0)).new w7.heap.size 1 (Nat.ne_of_lt y96_B5) (.int .i64 t1)).new w7.heap.size 2 (Nat.ne_of_lt y96_B5) (.int .i64 t2)).new (w7.heap.size + 1) 0 (Nat.ne_of_lt y98_B5) (.int .i64 y0)).new (w7.heap.size + 1) 1 (Nat.ne_of_lt y98_B5) (.int .i64 y1)).new (w7.heap.size + 1) 2 (Nat.ne_of_lt y98_B5) (.int .i64 y2)) ((((((B6_8.put 0 (of_decide_eq_true rfl) (.int .i64 t0) [.int .i64 t0, .int .i64 0, .int .i64 0] rfl).put 1 (of_decide_eq_true rfl) (.int .i64 t1) [.int .i64 t0, .int .i64 t1, .int .i64 0] rfl).put 2 (of_decide_eq_true rfl) (.int .i64 t2) [.int .i64 t0, .int .i64 t1, .int .i64 t2] rfl).new (w7.heap.size + 1) 0 (Nat.ne_of_lt y98_B6) (.int .i64 y0)).new (w7.heap.size + 1) 1 (Nat.ne_of_lt y98_B6) (.int .i64 y1)).new (w7.heap.size + 1) 2 (Nat.ne_of_lt y98_B6) (.int .i64 y2)) ((((((B7_8.new w7.heap.size 0 (Nat.ne_of_gt y98_B6) (.int .i64 t0)).new w7.heap.size 1 (Nat.ne_of_gt y98_B6) (.int .i64 t1)).new w7.heap.size 2 (Nat.ne_of_gt y98_B6) (.int .i64 t2)).put 0 (of_decide_eq_true rfl) (.int .i64 y0) [.int .i64 y0, .int .i64 0, .int .i64 0] rfl).put 1 (of_decide_eq_true rfl) (.int .i64 y1) [.int .i64 y0, .int .i64 y1, .int .i64 0] rfl).put 2 (of_decide_eq_true rfl) (.int .i64 y2) [.int .i64 y0, .int .i64 y1, .int .i64 y2] rfl) y96_low y98_low y96_B0 y96_B1 y96_B2 y96_B3 y96_B4 y96_B5 y98_B0 y98_B1 y98_B2 y98_B3 y98_B4 y98_B5 (Nat.ne_of_lt y98_B6)
      · have y99_B0 : w.heap.size < w7.heap.size := B0_7.lies
        have y99_B1 : w.heap.size + 1 < w7.heap.size := B1_7.lies
        have y99_B2 : w1.heap.size < w7.heap.size := f7.lies
        have y99_B3 : w2.heap.size < w7.heap.size := B3_7.lies
        have y99_B4 : x1_0 < w7.heap.size := B4_7.lies
        have y99_B5 : x1_1 < w7.heap.size := B5_7.lies
        have y99_low : w.heap.size ≤ w7.heap.size := K7.size
        go_simp
        clear hHeld
        refine hK.out _ _ ⟨(B3_7.alloc _), (B4_7.alloc _), (B5_7.alloc _)⟩ (fun hHeld => ?_)
        clear hK K
        refine call_at2 (i0 := 7) (i1 := 8) (by kernel_rfl) rfl rfl (fun K hK => ?_) (fun K hK => ?_)
        · go_simp
          refine (qTurn_any w1.heap.size false (o0, o1, o2, o3) (b0, b1, b2) _ (f7.alloc _)).mono ?_
          rintro e w8 ⟨rfl, f8, k8⟩
          rw [hy] at f8 ⊢
          dsimp only at f8 ⊢
          have K8 : Below w.heap.size w w8 := k8.on (bel_al K7 _) (by omega)
          have B0_8 : Arr w.heap.size [.int .i64 q.1, .int .i64 q.2.1, .int .i64 q.2.2.1, .int .i64 q.2.2.2] w8 := (B0_7.alloc _).kept k8 (Nat.ne_of_lt y86_B0)
          have B1_8 : Arr (w.heap.size + 1) [.int .i64 p.1, .int .i64 p.2.1, .int .i64 p.2.2.1, .int .i64 p.2.2.2.1, .int .i64 p.2.2.2.2.1, .int .i64 p.2.2.2.2.2] w8 := (B1_7.alloc _).kept k8 (Nat.ne_of_lt y86_B1)
          have B3_8 : Arr w2.heap.size [.int .i64 o0, .int .i64 o1, .int .i64 o2, .int .i64 o3] w8 := (B3_7.alloc _).kept k8 (Nat.ne_of_gt y87_B2)
          have B4_8 : Arr x1_0 [.int .i64 a0, .int .i64 a1, .int .i64 a2] w8 := (B4_7.alloc _).kept k8 (Nat.ne_of_gt s1_4)
          have B5_8 : Arr x1_1 [.int .i64 b0, .int .i64 b1, .int .i64 b2] w8 := (B5_7.alloc _).kept k8 (Nat.ne_of_gt s1_8)
          have B6_8 : Arr w7.heap.size [.int .i64 0, .int .i64 0, .int .i64 0] w8 := (Arr_at _ _ [.int .i64 0, .int .i64 0, .int .i64 0] _ (by simp)).kept k8 (Nat.ne_of_gt y99_B2)
          have z8 := B6_8.lies
          have z8_B4 := B4_8.lies
          have z8_B5 := B5_8.lies
          clear hHeld
          refine hK.out _ _ ⟨B3_8, B4_8, B5_8⟩ (fun hHeld => ?_)
          clear hK K K7 B0_7 B1_7 f7 B3_7 B4_7 B5_7 k8
          refine call_at (i := 8) (by kernel_rfl) rfl (fun K hK => ?_)
          have y100_B0 : w.heap.size < w8.heap.size := B0_8.lies
          have y100_B1 : w.heap.size + 1 < w8.heap.size := B1_8.lies
          have y100_B2 : w1.heap.size < w8.heap.size := f8.lies
          have y100_B3 : w2.heap.size < w8.heap.size := B3_8.lies
          have y100_B4 : x1_0 < w8.heap.size := B4_8.lies
          have y100_B5 : x1_1 < w8.heap.size := B5_8.lies
          have y100_B6 : w7.heap.size < w8.heap.size := B6_8.lies
          have y100_low : w.heap.size ≤ w8.heap.size := K8.size
          go_simp
          clear hHeld
          refine hK.out _ _ ⟨(B3_8.alloc _), (B4_8.alloc _), (B5_8.alloc _)⟩ (fun hHeld => ?_)
          clear hK K
          refine call_at (i := 10) (by kernel_rfl) rfl (fun K hK => ?_)
          go_simp
          clear hHeld
          refine hK.out _ _ ⟨(B3_8.alloc _), (B4_8.alloc _), (B5_8.alloc _)⟩ (fun hHeld => ?_)
          clear hK K
          refine call_at (i := 11) (by kernel_rfl) rfl (fun K hK => ?_)
          have c10_B6_0 : w8.cell? ⟨w7.heap.size, 0, none⟩ = some (.int .i64 0) := B6_8.c 0 (of_decide_eq_true rfl)
          have c10_B6_1 : w8.cell? ⟨w7.heap.size, 1, none⟩ = some (.int .i64 0) := B6_8.c 1 (of_decide_eq_true rfl)
          have c10_B6_2 : w8.cell? ⟨w7.heap.size, 2, none⟩ = some (.int .i64 0) := B6_8.c 2 (of_decide_eq_true rfl)
          have g10_B6_0 := B6_8.f 0 (of_decide_eq_true rfl)
          have g10_B6_1 := B6_8.f 1 (of_decide_eq_true rfl)
          have g10_B6_2 := B6_8.f 2 (of_decide_eq_true rfl)
          have l10_B6 := B6_8.lies
          go_simp
          clear hHeld
          refine hK.out _ _ ⟨((((B3_8.new w7.heap.size 0 (Nat.ne_of_lt y99_B3) (.int .i64 y0)).new w7.heap.size 1 (Nat.ne_of_lt y99_B3) (.int .i64 y1)).new w7.heap.size 2 (Nat.ne_of_lt y99_B3) (.int .i64 y2)).alloc _), ((((B4_8.new w7.heap.size 0 (Nat.ne_of_lt y99_B4) (.int .i64 y0)).new w7.heap.size 1 (Nat.ne_of_lt y99_B4) (.int .i64 y1)).new w7.heap.size 2 (Nat.ne_of_lt y99_B4) (.int .i64 y2)).alloc _), ((((B5_8.new w7.heap.size 0 (Nat.ne_of_lt y99_B5) (.int .i64 y0)).new w7.heap.size 1 (Nat.ne_of_lt y99_B5) (.int .i64 y1)).new w7.heap.size 2 (Nat.ne_of_lt y99_B5) (.int .i64 y2)).alloc _)⟩ (fun hHeld => ?_)
          clear hK K c10_B6_0 c10_B6_1 c10_B6_2 g10_B6_0 g10_B6_1 g10_B6_2 l10_B6
          refine wpAnyH_done (by kernel_rfl) ?_ _
          clear hHeld
          exact cont2 _ _ _ _ _ _ _ _ _ _ _ _ _ _ _ _ _ _ _ _ _ _ _ _ _ _ _ _ _ _ _ _ _ _ _ _ _ _ _ _ w8.heap.size w7.heap.size (bel_al (bel_new (bel_new (bel_new K8 _ _ y99_low _) _ _ y99_low _) _ _ y99_low _) _) ((((B0_8.new w7.heap.size 0 (Nat.ne_of_lt y99_B0) (.int .i64 y0)).new w7.heap.size 1 (Nat.ne_of_lt y99_B0) (.int .i64 y1)).new w7.heap.size 2 (Nat.ne_of_lt y99_B0) (.int .i64 y2)).alloc _) ((((B1_8.new w7.heap.size 0 (Nat.ne_of_lt y99_B1) (.int .i64 y0)).new w7.heap.size 1 (Nat.ne_of_lt y99_B1) (.int .i64 y1)).new w7.heap.size 2 (Nat.ne_of_lt y99_B1) (.int .i64 y2)).alloc _) ((((f8.new w7.heap.size 0 (Nat.ne_of_lt y99_B2) (.int .i64 y0)).new w7.heap.size 1 (Nat.ne_of_lt y99_B2) (.int .i64 y1)).new w7.heap.size 2 (Nat.ne_of_lt y99_B2) (.int .i64 y2)).alloc _) ((((B3_8.new w7.heap.size 0 (Nat.ne_of_lt y99_B3) (.int .i64 y0)).new w7.heap.size 1 (Nat.ne_of_lt y99_B3) (.int .i64 y1)).new w7.heap.size 2 (Nat.ne_of_lt y99_B3) (.int .i64 y2)).alloc _) ((((B4_8.new w7.heap.size 0 (Nat.ne_of_lt y99_B4) (.int .i64 y0)).new w7.heap.size 1 (Nat.ne_of_lt y99_B4) (.int .i64 y1)).new w7.heap.size 2 (Nat.ne_of_lt y99_B4) (.int .i64 y2)).alloc _) ((((B5_8.new w7.heap.size 0 (Nat.ne_of_lt y99_B5) (.int .i64 y0)).new w7.heap.size 1 (Nat.ne_of_lt y99_B5) (.int .i64 y1)).new w7.heap.size 2 (Nat.ne_of_lt y99_B5) (.int .i64 y2)).alloc _) (Arr_at _ _ [.int .i64 t0, .int .i64 t1, .int .i64 t2] _ (by simp)) ((((B6_8.put 0 (of_decide_eq_true rfl) (.int .i64 y0) [.int .i64 y0, .int .i64 0, .int .i64 0] rfl).put 1 (of_decide_eq_true rfl) (.int .i64 y1) [.int .i64 y0, .int .i64 y1, .int .i64 0] rfl).put 2 (of_decide_eq_true rfl) (.int .i64 y2) [.int .i64 y0, .int .i64 y1, .int .i64 y2] rfl).alloc _) y100_low y99_low y100_B0 y100_B1 y100_B2 y100_B3 y100_B4 y100_B5 y99_B0 y99_B1 y99_B2 y99_B3 y99_B4 y99_B5 (Nat.ne_of_gt y100_B6)
        · have y101_B0 : w.heap.size < w7.heap.size + 1 := (Nat.lt_succ_of_lt B0_7.lies)
          have y101_B1 : w.heap.size + 1 < w7.heap.size + 1 := (Nat.lt_succ_of_lt B1_7.lies)
          have y101_B2 : w1.heap.size < w7.heap.size + 1 := (Nat.lt_succ_of_lt f7.lies)
          have y101_B3 : w2.heap.size < w7.heap.size + 1 := (Nat.lt_succ_of_lt B3_7.lies)
          have y101_B4 : x1_0 < w7.heap.size + 1 := (Nat.lt_succ_of_lt B4_7.lies)
          have y101_B5 : x1_1 < w7.heap.size + 1 := (Nat.lt_succ_of_lt B5_7.lies)
          have y101_B6 : w7.heap.size < w7.heap.size + 1 := (Nat.lt_succ_self _)
          have y101_low : w.heap.size ≤ w7.heap.size + 1 := (Nat.le_succ_of_le K7.size)
          go_simp
          clear hHeld
          refine hK.out _ _ ⟨((B3_7.alloc _).alloc _), ((B4_7.alloc _).alloc _), ((B5_7.alloc _).alloc _)⟩ (fun hHeld => ?_)
          clear hK K
          refine call_at (i := 7) (by kernel_rfl) rfl (fun K hK => ?_)
          go_simp
          refine (qTurn_any w1.heap.size false (o0, o1, o2, o3) (b0, b1, b2) _ ((f7.alloc _).alloc _)).mono ?_
          rintro e w8 ⟨rfl, f8, k8⟩
          rw [hy] at f8 ⊢
          dsimp only at f8 ⊢
          have K8 : Below w.heap.size w w8 := k8.on (bel_al (bel_al K7 _) _) (by omega)
          have B0_8 : Arr w.heap.size [.int .i64 q.1, .int .i64 q.2.1, .int .i64 q.2.2.1, .int .i64 q.2.2.2] w8 := ((B0_7.alloc _).alloc _).kept k8 (Nat.ne_of_lt y86_B0)
          have B1_8 : Arr (w.heap.size + 1) [.int .i64 p.1, .int .i64 p.2.1, .int .i64 p.2.2.1, .int .i64 p.2.2.2.1, .int .i64 p.2.2.2.2.1, .int .i64 p.2.2.2.2.2] w8 := ((B1_7.alloc _).alloc _).kept k8 (Nat.ne_of_lt y86_B1)
          have B3_8 : Arr w2.heap.size [.int .i64 o0, .int .i64 o1, .int .i64 o2, .int .i64 o3] w8 := ((B3_7.alloc _).alloc _).kept k8 (Nat.ne_of_gt y87_B2)
          have B4_8 : Arr x1_0 [.int .i64 a0, .int .i64 a1, .int .i64 a2] w8 := ((B4_7.alloc _).alloc _).kept k8 (Nat.ne_of_gt s1_4)
          have B5_8 : Arr x1_1 [.int .i64 b0, .int .i64 b1, .int .i64 b2] w8 := ((B5_7.alloc _).alloc _).kept k8 (Nat.ne_of_gt s1_8)
          have B6_8 : Arr w7.heap.size [.int .i64 0, .int .i64 0, .int .i64 0] w8 := ((Arr_at _ _ [.int .i64 0, .int .i64 0, .int .i64 0] _ (by simp)).alloc _).kept k8 (Nat.ne_of_gt y99_B2)
          have B7_8 : Arr (w7.heap.size + 1) [.int .i64 0, .int .i64 0, .int .i64 0] w8 := (Arr_at _ _ [.int .i64 0, .int .i64 0, .int .i64 0] _ (by simp)).kept k8 (Nat.ne_of_gt y101_B2)
          have z8 := B7_8.lies
          have z8_B4 := B4_8.lies
          have z8_B5 := B5_8.lies
          clear hHeld
          refine hK.out _ _ ⟨B3_8, B4_8, B5_8⟩ (fun hHeld => ?_)
          clear hK K K7 B0_7 B1_7 f7 B3_7 B4_7 B5_7 k8
          refine call_at (i := 10) (by kernel_rfl) rfl (fun K hK => ?_)
          have c9_B7_0 : w8.cell? ⟨w7.heap.size + 1, 0, none⟩ = some (.int .i64 0) := B7_8.c 0 (of_decide_eq_true rfl)
          have c9_B7_1 : w8.cell? ⟨w7.heap.size + 1, 1, none⟩ = some (.int .i64 0) := B7_8.c 1 (of_decide_eq_true rfl)
          have c9_B7_2 : w8.cell? ⟨w7.heap.size + 1, 2, none⟩ = some (.int .i64 0) := B7_8.c 2 (of_decide_eq_true rfl)
          have g9_B7_0 := B7_8.f 0 (of_decide_eq_true rfl)
          have g9_B7_1 := B7_8.f 1 (of_decide_eq_true rfl)
          have g9_B7_2 := B7_8.f 2 (of_decide_eq_true rfl)
          go_simp
          clear hHeld
          refine hK.out _ _ ⟨(((B3_8.new (w7.heap.size + 1) 0 (Nat.ne_of_lt y101_B3) (.int .i64 t0)).new (w7.heap.size + 1) 1 (Nat.ne_of_lt y101_B3) (.int .i64 t1)).new (w7.heap.size + 1) 2 (Nat.ne_of_lt y101_B3) (.int .i64 t2)), (((B4_8.new (w7.heap.size + 1) 0 (Nat.ne_of_lt y101_B4) (.int .i64 t0)).new (w7.heap.size + 1) 1 (Nat.ne_of_lt y101_B4) (.int .i64 t1)).new (w7.heap.size + 1) 2 (Nat.ne_of_lt y101_B4) (.int .i64 t2)), (((B5_8.new (w7.heap.size + 1) 0 (Nat.ne_of_lt y101_B5) (.int .i64 t0)).new (w7.heap.size + 1) 1 (Nat.ne_of_lt y101_B5) (.int .i64 t1)).new (w7.heap.size + 1) 2 (Nat.ne_of_lt y101_B5) (.int .i64 t2))⟩ (fun hHeld => ?_)
          clear hK K c9_B7_0 c9_B7_1 c9_B7_2 g9_B7_0 g9_B7_1 g9_B7_2
          refine call_at (i := 11) (by kernel_rfl) rfl (fun K hK => ?_)
          have c10_B6_0 : w8.cell? ⟨w7.heap.size, 0, none⟩ = some (.int .i64 0) := B6_8.c 0 (of_decide_eq_true rfl)
          have c10_B6_1 : w8.cell? ⟨w7.heap.size, 1, none⟩ = some (.int .i64 0) := B6_8.c 1 (of_decide_eq_true rfl)
          have c10_B6_2 : w8.cell? ⟨w7.heap.size, 2, none⟩ = some (.int .i64 0) := B6_8.c 2 (of_decide_eq_true rfl)
          have g10_B6_0 := B6_8.f 0 (of_decide_eq_true rfl)
          have g10_B6_1 := B6_8.f 1 (of_decide_eq_true rfl)
          have g10_B6_2 := B6_8.f 2 (of_decide_eq_true rfl)
          go_simp
          clear hHeld
          refine hK.out _ _ ⟨((((((B3_8.new (w7.heap.size + 1) 0 (Nat.ne_of_lt y101_B3) (.int .i64 t0)).new (w7.heap.size + 1) 1 (Nat.ne_of_lt y101_B3) (.int .i64 t1)).new (w7.heap.size + 1) 2 (Nat.ne_of_lt y101_B3) (.int .i64 t2)).new w7.heap.size 0 (Nat.ne_of_lt y99_B3) (.int .i64 y0)).new w7.heap.size 1 (Nat.ne_of_lt y99_B3) (.int .i64 y1)).new w7.heap.size 2 (Nat.ne_of_lt y99_B3) (.int .i64 y2)), ((((((B4_8.new (w7.heap.size + 1) 0 (Nat.ne_of_lt y101_B4) (.int .i64 t0)).new (w7.heap.size + 1) 1 (Nat.ne_of_lt y101_B4) (.int .i64 t1)).new (w7.heap.size + 1) 2 (Nat.ne_of_lt y101_B4) (.int .i64 t2)).new w7.heap.size 0 (Nat.ne_of_lt y99_B4) (.int .i64 y0)).new w7.heap.size 1 (Nat.ne_of_lt y99_B4) (.int .i64 y1)).new w7.heap.size 2 (Nat.ne_of_lt y99_B4) (.int .i64 y2)), ((((((B5_8.new (w7.heap.size + 1) 0 (Nat.ne_of_lt y101_B5) (.int .i64 t0)).new (w7.heap.size + 1) 1 (Nat.ne_of_lt y101_B5) (.int .i64 t1)).new (w7.heap.size + 1) 2 (Nat.ne_of_lt y101_B5) (.int .i64 t2)).new w7.heap.size 0 (Nat.ne_of_lt y99_B5) (.int .i64 y0)).new w7.heap.size 1 (Nat.ne_of_lt y99_B5) (.int .i64 y1)).new w7.heap.size 2 (Nat.ne_of_lt y99_B5) (.int .i64 y2))⟩ (fun hHeld => ?_)
          clear hK K c10_B6_0 c10_B6_1 c10_B6_2 g10_B6_0 g10_B6_1 g10_B6_2
          refine wpAnyH_done (by kernel_rfl) ?_ _
          clear hHeld
          exact cont2 _ _ _ _ _ _ _ _ _ _ _ _ _ _ _ _ _ _ _ _ _ _ _ _ _ _ _ _ _ _ _ _ _ _ _ _ _ _ _ _ (w7.heap.size + 1) w7.heap.size (bel_new (bel_new (bel_new (bel_new (bel_new (bel_new K8 _ _ y101_low _) _ _ y101_low _) _ _ y101_low _) _ _ y99_low _) _ _ y99_low _) _ _ y99_low _) ((((((B0_8.new (w7.heap.size + 1) 0 (Nat.ne_of_lt y101_B0) (.int .i64 t0)).new (w7.heap.size + 1) 1 (Nat.ne_of_lt y101_B0) (.int .i64 t1)).new (w7.heap.size + 1) 2 (Nat.ne_of_lt y101_B0) (.int .i64 t2)).new w7.heap.size 0 (Nat.ne_of_lt y99_B0) (.int .i64 y0)).new w7.heap.size 1 (Nat.ne_of_lt y99_B0) (.int .i64 y1)).new w7.heap.size 2 (Nat.ne_of_lt y99_B0) (.int .i64 y2)) ((((((B1_8.new (w7.heap.size + 1) 0 (Nat.ne_of_lt y101_B1) (.int .i64 t0)).new (w7.heap.size + 1) 1 (Nat.ne_of_lt y101_B1) (.int .i64 t1)).new (w7.heap.size + 1) 2 (Nat.ne_of_lt y101_B1) (.int .i64 t2)).new w7.heap.size 0 (Nat.ne_of_lt y99_B1) (.int .i64 y0)).new w7.heap.size 1 (Nat.ne_of_lt y99_B1) (.int .i64 y1)).new w7.heap.size 2 (Nat.ne_of_lt y99_B1) (.int .i64 y2)) ((((((f8.new (w7.heap.size + 1) 0 (Nat.ne_of_lt y101_B2) (.int .i64 t0)).new (w7.heap.size + 1) 1 (Nat.ne_of_lt y101_B2) (.int .i64 t1)).new (w7.heap.size + 1) 2 (Nat.ne_of_lt y101_B2) (.int .i64 t2)).new w7.heap.size 0 (Nat.ne_of_lt y99_B2) (.int .i64 y0)).new w7.heap.size 1 (Nat.ne_of_lt y99_B2) (.int .i64 y1)).new w7.heap.size 2 (Nat.ne_of_lt y99_B2) (.int .i64 y2)) ((((((B3_8.new (w7.heap.size + 1) 0 (Nat.ne_of_lt y101_B3) (.int .i64 t0)).new (w7.heap.size + 1) 1 (Nat.ne_of_lt y101_B3) (.int .i64 t1)).new (w7.heap.size + 1) 2 (Nat.ne_of_lt y101_B3) (.int .i64 t2)).new w7.heap.size 0 (Nat.ne_of_lt y99_B3) (.int .i64 y0)).new w7.heap.size 1 (Nat.ne_of_lt y99_B3) (.int .i64 y1)).new w7.heap.size 2 (Nat.ne_of_lt y99_B3) (.int .i64 y2)) ((((((B4_8.new (w7.heap.size + 1) 0 (Nat.ne_of_lt y101_B4) (.int .i64 t0)).new (w7.heap.size + 1) 1 (Nat.ne_of_lt y101_B4) (.int .i64 t1)).new (w7.heap.size + 1) 2 (Nat.ne_of_lt y101_B4) (.int .i64 t2)).new w7.heap.size 0 (Nat.ne_of_lt y99_B4) (.int .i64 y0)).new w7.heap.size 1 (Nat.ne_of_lt y99_B4) (.int .i64 y1)).new w7.heap.size 2 (Nat.ne_of_lt y99_B4) (.int .i64 y2)) ((((((B5_8.new (w7.heap.size + 1) 0 (Nat.ne_of_lt y101_B5) (.int .i64 t0)).new (w7.heap.size + 1) 1 (Nat.ne_of_lt y101_B5) (.int .i64 t1)).new (w7.heap.size + 1) 2 (Nat.ne_of_lt y101_B5) (.int .i64 t2)).new w7.heap.size 0 (Nat.ne_of_lt y99_B5) (.int .i64 y0)).new w7.heap.size 1 (Nat.ne_of_lt y99_B5) (.int .i64 y1)).new w7.heap.size 2 (Nat.ne_of_lt y99_B5) (.int .i64 y2)) ((((((B7_8.put 0 (of_decide_eq_true rfl) (.int .i64 t0) [.int .i64 t0, .int .i64 0, .int .i64 0] rfl).put 1 (of_decide_eq_true rfl) (.int .i64 t1) [.int .i64 t0, .int .i64 t1, .int .i64 0] rfl).put 2 (of_decide_eq_true rfl) (.int .i64 t2) [.int .i64 t0, .int .i64 t1, .int .i64 t2] rfl).new w7.heap.size 0 (Nat.ne_of_gt y101_B6) (.int .i64 y0)).new w7.heap.size 1 (Nat.ne_of_gt y101_B6) (.int .i64 y1)).new w7.heap.size 2 (Nat.ne_of_gt y101_B6) (.int .i64 y2)) ((((((B6_8.new (w7.heap.size + 1) 0 (Nat.ne_of_lt y101_B6) (.int .i64 t0)).new (w7.heap.size + 1) 1 (Nat.ne_of_lt y101_B6) (.int .i64 t1)).new (w7.heap.size + 1) 2 (Nat.ne_of_lt y101_B6) (.int .i64 t2)).put 0 (of_decide_eq_true rfl) (.int .i64 y0) [.int .i64 y0, .int .i64 0, .int .i64 0] rfl).put 1 (of_decide_eq_true rfl) (.int .i64 y1) [.int .i64 y0, .int .i64 y1, .int .i64 0] rfl).put 2 (of_decide_eq_true rfl) (.int .i64 y2) [.int .i64 y0, .int .i64 y1, .int .i64 y2] rfl) y101_low y99_low y101_B0 y101_B1 y101_B2 y101_B3 y101_B4 y101_B5 y99_B0 y99_B1 y99_B2 y99_B3 y99_B4 y99_B5 (Nat.ne_of_gt y101_B6)
    · have y102_B0 : w.heap.size < W1.heap.size := B0_c1.lies
      have y102_B1 : w.heap.size + 1 < W1.heap.size := B1_c1.lies
      have y102_B2 : w1.heap.size < W1.heap.size := B2_c1.lies
      have y102_B3 : w2.heap.size < W1.heap.size := B3_c1.lies
      have y102_B4 : x1_0 < W1.heap.size := B4_c1.lies
      have y102_B5 : x1_1 < W1.heap.size := B5_c1.lies
      have y102_low : w.heap.size ≤ W1.heap.size := KC1.size
      go_simp
      clear hHeld
      refine hK.out _ _ ⟨(B3_c1.alloc _).drew, (B4_c1.alloc _).drew, (B5_c1.alloc _).drew⟩ (fun hHeld => ?_)
      clear hK K
      refine call_at2 (i0 := 3) (i1 := 9) (by kernel_rfl) rfl rfl (fun K hK => ?_) (fun K hK => ?_)
      · go_simp
        refine (qTurn_any w1.heap.size false (o0, o1, o2, o3) (a0, a1, a2) _ (B2_c1.alloc _).drew).mono ?_
        rintro e w7 ⟨rfl, f7, k7⟩
        rw [ht] at f7 ⊢
        dsimp only at f7 ⊢
        have K7 : Below w.heap.size w w7 := k7.on (Below.drew (bel_al KC1 _)) (by omega)
        have B0_7 : Arr w.heap.size [.int .i64 q.1, .int .i64 q.2.1, .int .i64 q.2.2.1, .int .i64 q.2.2.2] w7 := (B0_c1.alloc _).drew.kept k7 (Nat.ne_of_lt y86_B0)
        have B1_7 : Arr (w.heap.size + 1) [.int .i64 p.1, .int .i64 p.2.1, .int .i64 p.2.2.1, .int .i64 p.2.2.2.1, .int .i64 p.2.2.2.2.1, .int .i64 p.2.2.2.2.2] w7 := (B1_c1.alloc _).drew.kept k7 (Nat.ne_of_lt y86_B1)
        have B3_7 : Arr w2.heap.size [.int .i64 o0, .int .i64 o1, .int .i64 o2, .int .i64 o3] w7 := (B3_c1.alloc _).drew.kept k7 (Nat.ne_of_gt y87_B2)
        have B4_7 : Arr x1_0 [.int .i64 a0, .int .i64 a1, .int .i64 a2] w7 := (B4_c1.alloc _).drew.kept k7 (Nat.ne_of_gt s1_4)
        have B5_7 : Arr x1_1 [.int .i64 b0, .int .i64 b1, .int .i64 b2] w7 := (B5_c1.alloc _).drew.kept k7 (Nat.ne_of_gt s1_8)
        have B6_7 : Arr W1.heap.size [.int .i64 0, .int .i64 0, .int .i64 0] w7 := (Arr_at _ _ [.int .i64 0, .int .i64 0, .int .i64 0] _ (by simp)).drew.kept k7 (Nat.ne_of_gt y102_B2)
        have z7 := B6_7.lies
        have z7_B4 := B4_7.lies
        have z7_B5 := B5_7.lies
        clear hHeld
        refine hK.out _ _ ⟨B3_7, B4_7, B5_7⟩ (fun hHeld => ?_)
        clear hK K B0_c1 B1_c1 B2_c1 B3_c1 B4_c1 B5_c1 k7
        refine call_at2 (i0 := 7) (i1 := 9) (by kernel_rfl) rfl rfl (fun K hK => ?_) (fun K hK => ?_)
        · go_simp
          refine (qTurn_any w1.heap.size false (o0, o1, o2, o3) (b0, b1, b2) _ f7).mono ?_
          rintro e w8 ⟨rfl, f8, k8⟩
          rw [hy] at f8 ⊢
          dsimp only at f8 ⊢
          have K8 : Below w.heap.size w w8 := k8.on K7 (by omega)
          have B0_8 : Arr w.heap.size [.int .i64 q.1, .int .i64 q.2.1, .int .i64 q.2.2.1, .int .i64 q.2.2.2] w8 := B0_7.kept k8 (Nat.ne_of_lt y86_B0)
          have B1_8 : Arr (w.heap.size + 1) [.int .i64 p.1, .int .i64 p.2.1, .int .i64 p.2.2.1, .int .i64 p.2.2.2.1, .int .i64 p.2.2.2.2.1, .int .i64 p.2.2.2.2.2] w8 := B1_7.kept k8 (Nat.ne_of_lt y86_B1)
          have B3_8 : Arr w2.heap.size [.int .i64 o0, .int .i64 o1, .int .i64 o2, .int .i64 o3] w8 := B3_7.kept k8 (Nat.ne_of_gt y87_B2)
          have B4_8 : Arr x1_0 [.int .i64 a0, .int .i64 a1, .int .i64 a2] w8 := B4_7.kept k8 (Nat.ne_of_gt s1_4)
          have B5_8 : Arr x1_1 [.int .i64 b0, .int .i64 b1, .int .i64 b2] w8 := B5_7.kept k8 (Nat.ne_of_gt s1_8)
          have B6_8 : Arr W1.heap.size [.int .i64 0, .int .i64 0, .int .i64 0] w8 := B6_7.kept k8 (Nat.ne_of_gt y102_B2)
          have z8 := B6_8.lies
          have z8_B4 := B4_8.lies
          have z8_B5 := B5_8.lies
          clear hHeld
          refine hK.out _ _ ⟨B3_8, B4_8, B5_8⟩ (fun hHeld => ?_)
          clear hK K K7 B0_7 B1_7 f7 B3_7 B4_7 B5_7 B6_7 k8
          refine call_at (i := 9) (by kernel_rfl) rfl (fun K hK => ?_)
          have y103_B0 : w.heap.size < w8.heap.size := B0_8.lies
          have y103_B1 : w.heap.size + 1 < w8.heap.size := B1_8.lies
          have y103_B2 : w1.heap.size < w8.heap.size := f8.lies
          have y103_B3 : w2.heap.size < w8.heap.size := B3_8.lies
          have y103_B4 : x1_0 < w8.heap.size := B4_8.lies
          have y103_B5 : x1_1 < w8.heap.size := B5_8.lies
          have y103_B6 : W1.heap.size < w8.heap.size := B6_8.lies
          have y103_low : w.heap.size ≤ w8.heap.size := K8.size
          go_simp
          clear hHeld
          refine hK.out _ _ ⟨(B3_8.alloc _), (B4_8.alloc _), (B5_8.alloc _)⟩ (fun hHeld => ?_)
          clear hK K
          refine call_at (i := 10) (by kernel_rfl) rfl (fun K hK => ?_)
          have c9_B6_0 : w8.cell? ⟨W1.heap.size, 0, none⟩ = some (.int .i64 0) := B6_8.c 0 (of_decide_eq_true rfl)
          have c9_B6_1 : w8.cell? ⟨W1.heap.size, 1, none⟩ = some (.int .i64 0) := B6_8.c 1 (of_decide_eq_true rfl)
          have c9_B6_2 : w8.cell? ⟨W1.heap.size, 2, none⟩ = some (.int .i64 0) := B6_8.c 2 (of_decide_eq_true rfl)
          have g9_B6_0 := B6_8.f 0 (of_decide_eq_true rfl)
          have g9_B6_1 := B6_8.f 1 (of_decide_eq_true rfl)
          have g9_B6_2 := B6_8.f 2 (of_decide_eq_true rfl)
          have l9_B6 := B6_8.lies
          go_simp
          clear hHeld
          refine hK.out _ _ ⟨((((B3_8.new W1.heap.size 0 (Nat.ne_of_lt y102_B3) (.int .i64 t0)).new W1.heap.size 1 (Nat.ne_of_lt y102_B3) (.int .i64 t1)).new W1.heap.size 2 (Nat.ne_of_lt y102_B3) (.int .i64 t2)).alloc _), ((((B4_8.new W1.heap.size 0 (Nat.ne_of_lt y102_B4) (.int .i64 t0)).new W1.heap.size 1 (Nat.ne_of_lt y102_B4) (.int .i64 t1)).new W1.heap.size 2 (Nat.ne_of_lt y102_B4) (.int .i64 t2)).alloc _), ((((B5_8.new W1.heap.size 0 (Nat.ne_of_lt y102_B5) (.int .i64 t0)).new W1.heap.size 1 (Nat.ne_of_lt y102_B5) (.int .i64 t1)).new W1.heap.size 2 (Nat.ne_of_lt y102_B5) (.int .i64 t2)).alloc _)⟩ (fun hHeld => ?_)
          clear hK K c9_B6_0 c9_B6_1 c9_B6_2 g9_B6_0 g9_B6_1 g9_B6_2 l9_B6
          refine call_at (i := 11) (by kernel_rfl) rfl (fun K hK => ?_)
          go_simp
          clear hHeld
          refine hK.out _ _ ⟨((((B3_8.new W1.heap.size 0 (Nat.ne_of_lt y102_B3) (.int .i64 t0)).new W1.heap.size 1 (Nat.ne_of_lt y102_B3) (.int .i64 t1)).new W1.heap.size 2 (Nat.ne_of_lt y102_B3) (.int .i64 t2)).alloc _), ((((B4_8.new W1.heap.size 0 (Nat.ne_of_lt y102_B4) (.int .i64 t0)).new W1.heap.size 1 (Nat.ne_of_lt y102_B4) (.int .i64 t1)).new W1.heap.size 2 (Nat.ne_of_lt y102_B4) (.int .i64 t2)).alloc _), ((((B5_8.new W1.heap.size 0 (Nat.ne_of_lt y102_B5) (.int .i64 t0)).new W1.heap.size 1 (Nat.ne_of_lt y102_B5) (.int .i64 t1)).new W1.heap.size 2 (Nat.ne_of_lt y102_B5) (.int .i64 t2)).alloc _)⟩ (fun hHeld => ?_)
          clear hK K
          refine wpAnyH_done (by kernel_rfl) ?_ _
          clear hHeld
          exact cont2 _ _ _ _ _ _ _ _ _ _ _ _ _ _ _ _ _ _ _ _ _ _ _ _ _ _ _ _ _ _ _ _ _ _ _ _ _ _ _ _ W1.heap.size w8.heap.size (bel_al (bel_new (bel_new (bel_new K8 _ _ y102_low _) _ _ y102_low _) _ _ y102_low _) _) ((((B0_8.new W1.heap.size 0 (Nat.ne_of_lt y102_B0) (.int .i64 t0)).new W1.heap.size 1 (Nat.ne_of_lt y102_B0) (.int .i64 t1)).new W1.heap.size 2 (Nat.ne_of_lt y102_B0) (.int .i64 t2)).alloc _) ((((B1_8.new W1.heap.size 0 (Nat.ne_of_lt y102_B1) (.int .i64 t0)).new W1.heap.size 1 (Nat.ne_of_lt y102_B1) (.int .i64 t1)).new W1.heap.size 2 (Nat.ne_of_lt y102_B1) (.int .i64 t2)).alloc _) ((((f8.new W1.heap.size 0 (Nat.ne_of_lt y102_B2) (.int .i64 t0)).new W1.heap.size 1 (Nat.ne_of_lt y102_B2) (.int .i64 t1)).new W1.heap.size 2 (Nat.ne_of_lt y102_B2) (.int .i64 t2)).alloc _) ((((B3_8.new W1.heap.size 0 (Nat.ne_of_lt y102_B3) (.int .i64 t0)).new W1.heap.size 1 (Nat.ne_of_lt y102_B3) (.int .i64 t1)).new W1.heap.size 2 (Nat.ne_of_lt y102_B3) (.int .i64 t2)).alloc _) ((((B4_8.new W1.heap.size 0 (Nat.ne_of_lt y102_B4) (.int .i64 t0)).new W1.heap.size 1 (Nat.ne_of_lt y102_B4) (.int .i64 t1)).new W1.heap.size 2 (Nat.ne_of_lt y102_B4) (.int .i64 t2)).alloc _) ((((B5_8.new W1.heap.size 0 (Nat.ne_of_lt y102_B5) (.int .i64 t0)).new W1.heap.size 1 (Nat.ne_of_lt y102_B5) (.int .i64 t1)).new W1.heap.size 2 (Nat.ne_of_lt y102_B5) (.int .i64 t2)).alloc _) ((((B6_8.put 0 (of_decide_eq_true rfl) (.int .i64 t0) [.int .i64 t0, .int .i64 0, .int .i64 0] rfl).put 1 (of_decide_eq_true rfl) (.int .i64 t1) [.int .i64 t0, .int .i64 t1, .int .i64 0] rfl).put 2 (of_decide_eq_true rfl) (.int .i64 t2) [.int .i64 t0, .int .i64 t1, .int .i64 t2] rfl).alloc _) (Arr_at _ _ [.int .i64 y0, .int .i64 y1, .int .i64 y2] _ (by simp)) y102_low y103_low y102_B0 y102_B1 y102_B2 y102_B3 y102_B4 y102_B5 y103_B0 y103_B1 y103_B2 y103_B3 y103_B4 y103_B5 (Nat.ne_of_lt y103_B6)
        · have y104_B0 : w.heap.size < w7.heap.size := B0_7.lies
          have y104_B1 : w.heap.size + 1 < w7.heap.size := B1_7.lies
          have y104_B2 : w1.heap.size < w7.heap.size := f7.lies
          have y104_B3 : w2.heap.size < w7.heap.size := B3_7.lies
          have y104_B4 : x1_0 < w7.heap.size := B4_7.lies
          have y104_B5 : x1_1 < w7.heap.size := B5_7.lies
          have y104_B6 : W1.heap.size < w7.heap.size := B6_7.lies
          have y104_low : w.heap.size ≤ w7.heap.size := K7.size
          go_simp
          clear hHeld
          refine hK.out _ _ ⟨(B3_7.alloc _), (B4_7.alloc _), (B5_7.alloc _)⟩ (fun hHeld => ?_)
          clear hK K
          refine call_at (i := 7) (by kernel_rfl) rfl (fun K hK => ?_)
          go_simp
          refine (qTurn_any w1.heap.size false (o0, o1, o2, o3) (b0, b1, b2) _ (f7.alloc _)).mono ?_
          rintro e w8 ⟨rfl, f8, k8⟩
          rw [hy] at f8 ⊢
          dsimp only at f8 ⊢
          have K8 : Below w.heap.size w w8 := k8.on (bel_al K7 _) (by omega)
          have B0_8 : Arr w.heap.size [.int .i64 q.1, .int .i64 q.2.1, .int .i64 q.2.2.1, .int .i64 q.2.2.2] w8 := (B0_7.alloc _).kept k8 (Nat.ne_of_lt y86_B0)
          have B1_8 : Arr (w.heap.size + 1) [.int .i64 p.1, .int .i64 p.2.1, .int .i64 p.2.2.1, .int .i64 p.2.2.2.1, .int .i64 p.2.2.2.2.1, .int .i64 p.2.2.2.2.2] w8 := (B1_7.alloc _).kept k8 (Nat.ne_of_lt y86_B1)
          have B3_8 : Arr w2.heap.size [.int .i64 o0, .int .i64 o1, .int .i64 o2, .int .i64 o3] w8 := (B3_7.alloc _).kept k8 (Nat.ne_of_gt y87_B2)
          have B4_8 : Arr x1_0 [.int .i64 a0, .int .i64 a1, .int .i64 a2] w8 := (B4_7.alloc _).kept k8 (Nat.ne_of_gt s1_4)
          have B5_8 : Arr x1_1 [.int .i64 b0, .int .i64 b1, .int .i64 b2] w8 := (B5_7.alloc _).kept k8 (Nat.ne_of_gt s1_8)
          have B6_8 : Arr W1.heap.size [.int .i64 0, .int .i64 0, .int .i64 0] w8 := (B6_7.alloc _).kept k8 (Nat.ne_of_gt y102_B2)
          have B7_8 : Arr w7.heap.size [.int .i64 0, .int .i64 0, .int .i64 0] w8 := (Arr_at _ _ [.int .i64 0, .int .i64 0, .int .i64 0] _ (by simp)).kept k8 (Nat.ne_of_gt y104_B2)
          have z8 := B7_8.lies
          have z8_B4 := B4_8.lies
          have z8_B5 := B5_8.lies
          clear hHeld
          refine hK.out _ _ ⟨B3_8, B4_8, B5_8⟩ (fun hHeld => ?_)
          clear hK K K7 B0_7 B1_7 f7 B3_7 B4_7 B5_7 B6_7 k8
          refine call_at (i := 10) (by kernel_rfl) rfl (fun K hK => ?_)
          have c9_B6_0 : w8.cell? ⟨W1.heap.size, 0, none⟩ = some (.int .i64 0) := B6_8.c 0 (of_decide_eq_true rfl)
          have c9_B6_1 : w8.cell? ⟨W1.heap.size, 1, none⟩ = some (.int .i64 0) := B6_8.c 1 (of_decide_eq_true rfl)
          have c9_B6_2 : w8.cell? ⟨W1.heap.size, 2, none⟩ = some (.int .i64 0) := B6_8.c 2 (of_decide_eq_true rfl)
          have g9_B6_0 := B6_8.f 0 (of_decide_eq_true rfl)
          have g9_B6_1 := B6_8.f 1 (of_decide_eq_true rfl)
          have g9_B6_2 := B6_8.f 2 (of_decide_eq_true rfl)
          go_simp
          clear hHeld
          refine hK.out _ _ ⟨(((B3_8.new W1.heap.size 0 (Nat.ne_of_lt y102_B3) (.int .i64 t0)).new W1.heap.size 1 (Nat.ne_of_lt y102_B3) (.int .i64 t1)).new W1.heap.size 2 (Nat.ne_of_lt y102_B3) (.int .i64 t2)), (((B4_8.new W1.heap.size 0 (Nat.ne_of_lt y102_B4) (.int .i64 t0)).new W1.heap.size 1 (Nat.ne_of_lt y102_B4) (.int .i64 t1)).new W1.heap.size 2 (Nat.ne_of_lt y102_B4) (.int .i64 t2)), (((B5_8.new W1.heap.size 0 (Nat.ne_of_lt y102_B5) (.int .i64 t0)).new W1.heap.size 1 (Nat.ne_of_lt y102_B5) (.int .i64 t1)).new W1.heap.size 2 (Nat.ne_of_lt y102_B5) (.int .i64 t2))⟩ (fun hHeld => ?_)
          clear hK K c9_B6_0 c9_B6_1 c9_B6_2 g9_B6_0 g9_B6_1 g9_B6_2
          refine call_at (i := 11) (by kernel_rfl) rfl (fun K hK => ?_)
          have c10_B7_0 : w8.cell? ⟨w7.heap.size, 0, none⟩ = some (.int .i64 0) := B7_8.c 0 (of_decide_eq_true rfl)
          have c10_B7_1 : w8.cell? ⟨w7.heap.size, 1, none⟩ = some (.int .i64 0) := B7_8.c 1 (of_decide_eq_true rfl)
          have c10_B7_2 : w8.cell? ⟨w7.heap.size, 2, none⟩ = some (.int .i64 0) := B7_8.c 2 (of_decide_eq_true rfl)
          have g10_B7_0 := B7_8.f 0 (of_decide_eq_true rfl)
          have g10_B7_1 := B7_8.f 1 (of_decide_eq_true rfl)
          have g10_B7_2 := B7_8.f 2 (of_decide_eq_true rfl)
          go_simp
          clear hHeld
          refine hK.out _ _ ⟨((((((B3_8.new W1.heap.size 0 (Nat.ne_of_lt y102_B3) (.int .i64 t0)).new W1.heap.size 1 (Nat.ne_of_lt y102_B3) (.int .i64 t1)).new W1.heap.size 2 (Nat.ne_of_lt y102_B3) (.int .i64 t2)).new w7.heap.size 0 (Nat.ne_of_lt y104_B3) (.int .i64 y0)).new w7.heap.size 1 (Nat.ne_of_lt y104_B3) (.int .i64 y1)).new w7.heap.size 2 (Nat.ne_of_lt y104_B3) (.int .i64 y2)), ((((((B4_8.new W1.heap.size 0 (Nat.ne_of_lt y102_B4) (.int .i64 t0)).new W1.heap.size 1 (Nat.ne_of_lt y102_B4) (.int .i64 t1)).new W1.heap.size 2 (Nat.ne_of_lt y102_B4) (.int .i64 t2)).new w7.heap.size 0 (Nat.ne_of_lt y104_B4) (.int .i64 y0)).new w7.heap.size 1 (Nat.ne_of_lt y104_B4) (.int .i64 y1)).new w7.heap.size 2 (Nat.ne_of_lt y104_B4) (.int .i64 y2)), ((((((B5_8.new W1.heap.size 0 (Nat.ne_of_lt y102_B5) (.int .i64 t0)).new W1.heap.size 1 (Nat.ne_of_lt y102_B5) (.int .i64 t1)).new W1.heap.size 2 (Nat.ne_of_lt y102_B5) (.int .i64 t2)).new w7.heap.size 0 (Nat.ne_of_lt y104_B5) (.int .i64 y0)).new w7.heap.size 1 (Nat.ne_of_lt y104_B5) (.int .i64 y1)).new w7.heap.size 2 (Nat.ne_of_lt y104_B5) (.int .i64 y2))⟩ (fun hHeld => ?_)
          clear hK K c10_B7_0 c10_B7_1 c10_B7_2 g10_B7_0 g10_B7_1 g10_B7_2
          refine wpAnyH_done (by kernel_rfl) ?_ _
          clear hHeld
          exact cont2 _ _ _ _ _ _ _ _ _ _ _ _ _ _ _ _ _ _ _ _ _ _ _ _ _ _ _ _ _ _ _ _ _ _ _ _ _ _ _ _ W1.heap.size w7.heap.size (bel_new (bel_new (bel_new (bel_new (bel_new (bel_new K8 _ _ y102_low _) _ _ y102_low _) _ _ y102_low _) _ _ y104_low _) _ _ y104_low _) _ _ y104_low _) ((((((B0_8.new W1.heap.size 0 (Nat.ne_of_lt y102_B0) (.int .i64 t0)).new W1.heap.size 1 (Nat.ne_of_lt y102_B0) (.int .i64 t1)).new W1.heap.size 2 (Nat.ne_of_lt y102_B0) (.int .i64 t2)).new w7.heap.size 0 (Nat.ne_of_lt y104_B0) (.int .i64 y0)).new w7.heap.size 1 (Nat.ne_of_lt y104_B0) (.int .i64 y1)).new w7.heap.size 2 (Nat.ne_of_lt y104_B0) (.int .i64 y2)) ((((((B1_8.new W1.heap.size 0 (Nat.ne_of_lt y102_B1) (.int .i64 t0)).new W1.heap.size 1 (Nat.ne_of_lt y102_B1) (.int .i64 t1)).new W1.heap.size 2 (Nat.ne_of_lt y102_B1) (.int .i64 t2)).new w7.heap.size 0 (Nat.ne_of_lt y104_B1) (.int .i64 y0)).new w7.heap.size 1 (Nat.ne_of_lt y104_B1) (.int .i64 y1)).new w7.heap.size 2 (Nat.ne_of_lt y104_B1) (.int .i64 y2)) ((((((f8.new W1.heap.size 0 (Nat.ne_of_lt y102_B2) (.int .i64 t0)).new W1.heap.size 1 (Nat.ne_of_lt y102_B2) (.int .i64 t1)).new W1.heap.size 2 (Nat.ne_of_lt y102_B2) (.int .i64 t2)).new w7.heap.size 0 (Nat.ne_of_lt y104_B2) (.int .i64 y0)).new w7.heap.size 1 (Nat.ne_of_lt y104_B2) (.int .i64 y1)).new w7.heap.size 2 (Nat.ne_of_lt y104_B2) (.int .i64 y2)) ((((((B3_8.new W1.heap.size 0 (Nat.ne_of_lt y102_B3) (.int .i64 t0)).new W1.heap.size 1 (Nat.ne_of_lt y102_B3) (.int .i64 t1)).new W1.heap.size 2 (Nat.ne_of_lt y102_B3) (.int .i64 t2)).new w7.heap.size 0 (Nat.ne_of_lt y104_B3) (.int .i64 y0)).new w7.heap.size 1 (Nat.ne_of_lt y104_B3) (.int .i64 y1)).new w7.heap.size 2 (Nat.ne_of_lt y104_B3) (.int .i64 y2)) ((((((B4_8.new W1.heap.size 0 (Nat.ne_of_lt y102_B4) (.int .i64 t0)).new W1.heap.size 1 (Nat.ne_of_lt y102_B4) (.int .i64 t1)).new W1.heap.size 2 (Nat.ne_of_lt y102_B4) (.int .i64 t2)).new w7.heap.size 0 (Nat.ne_of_lt y104_B4) (.int .i64 y0)).new w7.heap.size 1 (Nat.ne_of_lt y104_B4) (.int .i64 y1)).new w7.heap.size 2 (Nat.ne_of_lt y104_B4) (.int .i64 y2)) ((((((B5_8.new W1.heap.size 0 (Nat.ne_of_lt y102_B5) (.int .i64 t0)).new W1.heap.size 1 (Nat.ne_of_lt y102_B5) (.int .i64 t1)).new W1.heap.size 2 (Nat.ne_of_lt y102_B5) (.int .i64 t2)).new w7.heap.size 0 (Nat.ne_of_lt y104_B5) (.int .i64 y0)).new w7.heap.size 1 (Nat.ne_of_lt y104_B5) (.int .i64 y1)).new w7.heap.size 2 (Nat.ne_of_lt y104_B5) (.int .i64 y2)) ((((((B6_8.put 0 (of_decide_eq_true rfl) (.int .i64 t0) [.int .i64 t0, .int .i64 0, .int .i64 0] rfl).put 1 (of_decide_eq_true rfl) (.int .i64 t1) [.int .i64 t0, .int .i64 t1, .int .i64 0] rfl).put 2 (of_decide_eq_true rfl) (.int .i64 t2) [.int .i64 t0, .int .i64 t1, .int .i64 t2] rfl).new w7.heap.size 0 (Nat.ne_of_lt y104_B6) (.int .i64 y0)).new w7.heap.size 1 (Nat.ne_of_lt y104_B6) (.int .i64 y1)).new w7.heap.size 2 (Nat.ne_of_lt y104_B6) (.int .i64 y2)) ((((((B7_8.new W1.heap.size 0 (Nat.ne_of_gt y104_B6) (.int .i64 t0)).new W1.heap.size 1 (Nat.ne_of_gt y104_B6) (.int .i64 t1)).new W1.heap.size 2 (Nat.ne_of_gt y104_B6) (.int .i64 t2)).put 0 (of_decide_eq_true rfl) (.int .i64 y0) [.int .i64 y0, .int .i64 0, .int .i64 0] rfl).put 1 (of_decide_eq_true rfl) (.int .i64 y1) [.int .i64 y0, .int .i64 y1, .int .i64 0] rfl).put 2 (of_decide_eq_true rfl) (.int .i64 y2) [.int .i64 y0, .int .i64 y1, .int .i64 y2] rfl) y102_low y104_low y102_B0 y102_B1 y102_B2 y102_B3 y102_B4 y102_B5 y104_B0 y104_B1 y104_B2 y104_B3 y104_B4 y104_B5 (Nat.ne_of_lt y104_B6)
      · have y105_B0 : w.heap.size < W1.heap.size + 1 := (Nat.lt_succ_of_lt B0_c1.lies)
        have y105_B1 : w.heap.size + 1 < W1.heap.size + 1 := (Nat.lt_succ_of_lt B1_c1.lies)
        have y105_B2 : w1.heap.size < W1.heap.size + 1 := (Nat.lt_succ_of_lt B2_c1.lies)
        have y105_B3 : w2.heap.size < W1.heap.size + 1 := (Nat.lt_succ_of_lt B3_c1.lies)
        have y105_B4 : x1_0 < W1.heap.size + 1 := (Nat.lt_succ_of_lt B4_c1.lies)
        have y105_B5 : x1_1 < W1.heap.size + 1 := (Nat.lt_succ_of_lt B5_c1.lies)
        have y105_B6 : W1.heap.size < W1.heap.size + 1 := (Nat.lt_succ_self _)
        have y105_low : w.heap.size ≤ W1.heap.size + 1 := (Nat.le_succ_of_le KC1.size)
        go_simp
        clear hHeld
        refine hK.out _ _ ⟨((B3_c1.alloc _).alloc _).drew, ((B4_c1.alloc _).alloc _).drew, ((B5_c1.alloc _).alloc _).drew⟩ (fun hHeld => ?_)
        clear hK K
        refine call_at (i := 3) (by kernel_rfl) rfl (fun K hK => ?_)
        go_simp
        refine (qTurn_any w1.heap.size false (o0, o1, o2, o3) (a0, a1, a2) _ ((B2_c1.alloc _).alloc _).drew).mono ?_
        rintro e w7 ⟨rfl, f7, k7⟩
        rw [ht] at f7 ⊢
        dsimp only at f7 ⊢
        have K7 : Below w.heap.size w w7 := k7.on (Below.drew (bel_al (bel_al KC1 _) _)) (by omega)
        have B0_7 : Arr w.heap.size [.int .i64 q.1, .int .i64 q.2.1, .int .i64 q.2.2.1, .int .i64 q.2.2.2] w7 := ((B0_c1.alloc _).alloc _).drew.kept k7 (Nat.ne_of_lt y86_B0)
        have B1_7 : Arr (w.heap.size + 1) [.int .i64 p.1, .int .i64 p.2.1, .int .i64 p.2.2.1, .int .i64 p.2.2.2.1, .int .i64 p.2.2.2.2.1, .int .i64 p.2.2.2.2.2] w7 := ((B1_c1.alloc _).alloc _).drew.kept k7 (Nat.ne_of_lt y86_B1)
        have B3_7 : Arr w2.heap.size [.int .i64 o0, .int .i64 o1, .int .i64 o2, .int .i64 o3] w7 := ((B3_c1.alloc _).alloc _).drew.kept k7 (Nat.ne_of_gt y87_B2)
        have B4_7 : Arr x1_0 [.int .i64 a0, .int .i64 a1, .int .i64 a2] w7 := ((B4_c1.alloc _).alloc _).drew.kept k7 (Nat.ne_of_gt s1_4)
        have B5_7 : Arr x1_1 [.int .i64 b0, .int .i64 b1, .int .i64 b2] w7 := ((B5_c1.alloc _).alloc _).drew.kept k7 (Nat.ne_of_gt s1_8)
        have B6_7 : Arr W1.heap.size [.int .i64 0, .int .i64 0, .int .i64 0] w7 := ((Arr_at _ _ [.int .i64 0, .int .i64 0, .int .i64 0] _ (by simp)).alloc _).drew.kept k7 (Nat.ne_of_gt y102_B2)
        have B7_7 : Arr (W1.heap.size + 1) [.int .i64 0, .int .i64 0, .int .i64 0] w7 := (Arr_at _ _ [.int .i64 0, .int .i64 0, .int .i64 0] _ (by simp)).drew.kept k7 (Nat.ne_of_gt y105_B2)
        have z7 := B7_7.lies
        have z7_B4 := B4_7.lies
        have z7_B5 := B5_7.lies
        clear hHeld
        refine hK.out _ _ ⟨B3_7, B4_7, B5_7⟩ (fun hHeld => ?_)
        clear hK K B0_c1 B1_c1 B2_c1 B3_c1 B4_c1 B5_c1 k7
        refine call_at (i := 7) (by kernel_rfl) rfl (fun K hK => ?_)
        go_simp
        refine (qTurn_any w1.heap.size false (o0, o1, o2, o3) (b0, b1, b2) _ f7).mono ?_
        rintro e w8 ⟨rfl, f8, k8⟩
        rw [hy] at f8 ⊢
        dsimp only at f8 ⊢
        have K8 : Below w.heap.size w w8 := k8.on K7 (by omega)
        have B0_8 : Arr w.heap.size [.int .i64 q.1, .int .i64 q.2.1, .int .i64 q.2.2.1, .int .i64 q.2.2.2] w8 := B0_7.kept k8 (Nat.ne_of_lt y86_B0)
        have B1_8 : Arr (w.heap.size + 1) [.int .i64 p.1, .int .i64 p.2.1, .int .i64 p.2.2.1, .int .i64 p.2.2.2.1, .int .i64 p.2.2.2.2.1, .int .i64 p.2.2.2.2.2] w8 := B1_7.kept k8 (Nat.ne_of_lt y86_B1)
        have B3_8 : Arr w2.heap.size [.int .i64 o0, .int .i64 o1, .int .i64 o2, .int .i64 o3] w8 := B3_7.kept k8 (Nat.ne_of_gt y87_B2)
        have B4_8 : Arr x1_0 [.int .i64 a0, .int .i64 a1, .int .i64 a2] w8 := B4_7.kept k8 (Nat.ne_of_gt s1_4)
        have B5_8 : Arr x1_1 [.int .i64 b0, .int .i64 b1, .int .i64 b2] w8 := B5_7.kept k8 (Nat.ne_of_gt s1_8)
        have B6_8 : Arr W1.heap.size [.int .i64 0, .int .i64 0, .int .i64 0] w8 := B6_7.kept k8 (Nat.ne_of_gt y102_B2)
        have B7_8 : Arr (W1.heap.size + 1) [.int .i64 0, .int .i64 0, .int .i64 0] w8 := B7_7.kept k8 (Nat.ne_of_gt y105_B2)
        have z8 := B7_8.lies
        have z8_B4 := B4_8.lies
        have z8_B5 := B5_8.lies
        clear hHeld
        refine hK.out _ _ ⟨B3_8, B4_8, B5_8⟩ (fun hHeld => ?_)
        clear hK K K7 B0_7 B1_7 f7 B3_7 B4_7 B5_7 B6_7 B7_7 k8
        refine call_at (i := 10) (by kernel_rfl) rfl (fun K hK => ?_)
        have c9_B6_0 : w8.cell? ⟨W1.heap.size, 0, none⟩ = some (.int .i64 0) := B6_8.c 0 (of_decide_eq_true rfl)
        have c9_B6_1 : w8.cell? ⟨W1.heap.size, 1, none⟩ = some (.int .i64 0) := B6_8.c 1 (of_decide_eq_true rfl)
        have c9_B6_2 : w8.cell? ⟨W1.heap.size, 2, none⟩ = some (.int .i64 0) := B6_8.c 2 (of_decide_eq_true rfl)
        have g9_B6_0 := B6_8.f 0 (of_decide_eq_true rfl)
        have g9_B6_1 := B6_8.f 1 (of_decide_eq_true rfl)
        have g9_B6_2 := B6_8.f 2 (of_decide_eq_true rfl)
        go_simp
        clear hHeld
        refine hK.out _ _ ⟨(((B3_8.new W1.heap.size 0 (Nat.ne_of_lt y102_B3) (.int .i64 t0)).new W1.heap.size 1 (Nat.ne_of_lt y102_B3) (.int .i64 t1)).new W1.heap.size 2 (Nat.ne_of_lt y102_B3) (.int .i64 t2)), (((B4_8.new W1.heap.size 0 (Nat.ne_of_lt y102_B4) (.int .i64 t0)).new W1.heap.size 1 (Nat.ne_of_lt y102_B4) (.int .i64 t1)).new W1.heap.size 2 (Nat.ne_of_lt y102_B4) (.int .i64 t2)), (((B5_8.new W1.heap.size 0 (Nat.ne_of_lt y102_B5) (.int .i64 t0)).new W1.heap.size 1 (Nat.ne_of_lt y102_B5) (.int .i64 t1)).new W1.heap.size 2 (Nat.ne_of_lt y102_B5) (.int .i64 t2))⟩ (fun hHeld => ?_)
        clear hK K c9_B6_0 c9_B6_1 c9_B6_2 g9_B6_0 g9_B6_1 g9_B6_2
        refine call_at (i := 11) (by kernel_rfl) rfl (fun K hK => ?_)
        have c10_B7_0 : w8.cell? ⟨W1.heap.size + 1, 0, none⟩ = some (.int .i64 0) := B7_8.c 0 (of_decide_eq_true rfl)
        have c10_B7_1 : w8.cell? ⟨W1.heap.size + 1, 1, none⟩ = some (.int .i64 0) := B7_8.c 1 (of_decide_eq_true rfl)
        have c10_B7_2 : w8.cell? ⟨W1.heap.size + 1, 2, none⟩ = some (.int .i64 0) := B7_8.c 2 (of_decide_eq_true rfl)
        have g10_B7_0 := B7_8.f 0 (of_decide_eq_true rfl)
        have g10_B7_1 := B7_8.f 1 (of_decide_eq_true rfl)
        have g10_B7_2 := B7_8.f 2 (of_decide_eq_true rfl)
        go_simp
        clear hHeld
        refine hK.out _ _ ⟨((((((B3_8.new W1.heap.size 0 (Nat.ne_of_lt y102_B3) (.int .i64 t0)).new W1.heap.size 1 (Nat.ne_of_lt y102_B3) (.int .i64 t1)).new W1.heap.size 2 (Nat.ne_of_lt y102_B3) (.int .i64 t2)).new (W1.heap.size + 1) 0 (Nat.ne_of_lt y105_B3) (.int .i64 y0)).new (W1.heap.size + 1) 1 (Nat.ne_of_lt y105_B3) (.int .i64 y1)).new (W1.heap.size + 1) 2 (Nat.ne_of_lt y105_B3) (.int .i64 y2)), ((((((B4_8.new W1.heap.size 0 (Nat.ne_of_lt y102_B4) (.int .i64 t0)).new W1.heap.size 1 (Nat.ne_of_lt y102_B4) (.int .i64 t1)).new W1.heap.size 2 (Nat.ne_of_lt y102_B4) (.int .i64 t2)).new (W1.heap.size + 1) 0 (Nat.ne_of_lt y105_B4) (.int .i64 y0)).new (W1.heap.size + 1) 1 (Nat.ne_of_lt y105_B4) (.int .i64 y1)).new (W1.heap.size + 1) 2 (Nat.ne_of_lt y105_B4) (.int .i64 y2)), ((((((B5_8.new W1.heap.size 0 (Nat.ne_of_lt y102_B5) (.int .i64 t0)).new W1.heap.size 1 (Nat.ne_of_lt y102_B5) (.int .i64 t1)).new W1.heap.size 2 (Nat.ne_of_lt y102_B5) (.int .i64 t2)).new (W1.heap.size + 1) 0 (Nat.ne_of_lt y105_B5) (.int .i64 y0)).new (W1.heap.size + 1) 1 (Nat.ne_of_lt y105_B5) (.int .i64 y1)).new (W1.heap.size + 1) 2 (Nat.ne_of_lt y105_B5) (.int .i64 y2))⟩ (fun hHeld => ?_)
        clear hK K c10_B7_0 c10_B7_1 c10_B7_2 g10_B7_0 g10_B7_1 g10_B7_2
        refine wpAnyH_done (by kernel_rfl) ?_ _
        clear hHeld
        exact cont2 _ _ _ _ _ _ _ _ _ _ _ _ _ _ _ _ _ _ _ _ _ _ _ _ _ _ _ _ _ _ _ _ _ _ _ _ _ _ _ _ W1.heap.size (W1.heap.size + 1) (bel_new (bel_new (bel_new (bel_new (bel_new (bel_new K8 _ _ y102_low _) _ _ y102_low _) _ _ y102_low _) _ _ y105_low _) _ _ y105_low _) _ _ y105_low _) ((((((B0_8.new W1.heap.size 0 (Nat.ne_of_lt y102_B0) (.int .i64 t0)).new W1.heap.size 1 (Nat.ne_of_lt y102_B0) (.int .i64 t1)).new W1.heap.size 2 (Nat.ne_of_lt y102_B0) (.int .i64 t2)).new (W1.heap.size + 1) 0 (Nat.ne_of_lt y105_B0) (.int .i64 y0)).new (W1.heap.size + 1) 1 (Nat.ne_of_lt y105_B0) (.int .i64 y1)).new (W1.heap.size + 1) 2 (Nat.ne_of_lt y105_B0) (.int .i64 y2)) ((((((B1_8.new W1.heap.size 0 (Nat.ne_of_lt y102_B1) (.int .i64 t0)).new W1.heap.size 1 (Nat.ne_of_lt y102_B1) (.int .i64 t1)).new W1.heap.size 2 (Nat.ne_of_lt y102_B1) (.int .i64 t2)).new (W1.heap.size + 1) 0 (Nat.ne_of_lt y105_B1) (.int .i64 y0)).new (W1.heap.size + 1) 1 (Nat.ne_of_lt y105_B1) (.int .i64 y1)).new (W1.heap.size + 1) 2 (Nat.ne_of_lt y105_B1) (.int .i64 y2)) ((((((f8.new W1.heap.size 0 (Nat.ne_of_lt y102_B2) (.int .i64 t0)).new W1.heap.size 1 (Nat.ne_of_lt y102_B2) (.int .i64 t1)).new W1.heap.size 2 (Nat.ne_of_lt y102_B2) (.int .i64 t2)).new (W1.heap.size + 1) 0 (Nat.ne_of_lt y105_B2) (.int .i64 y0)).new (W1.heap.size + 1) 1 (Nat.ne_of_lt y105_B2) (.int .i64 y1)).new (W1.heap.size + 1) 2 (Nat.ne_of_lt y105_B2) (.int .i64 y2)) ((((((B3_8.new W1.heap.size 0 (Nat.ne_of_lt y102_B3) (.int .i64 t0)).new W1.heap.size 1 (Nat.ne_of_lt y102_B3) (.int .i64 t1)).new W1.heap.size 2 (Nat.ne_of_lt y102_B3) (.int .i64 t2)).new (W1.heap.size + 1) 0 (Nat.ne_of_lt y105_B3) (.int .i64 y0)).new (W1.heap.size + 1) 1 (Nat.ne_of_lt y105_B3) (.int .i64 y1)).new (W1.heap.size + 1) 2 (Nat.ne_of_lt y105_B3) (.int .i64 y2)) ((((((B4_8.new W1.heap.size 0 (Nat.ne_of_lt y102_B4) (.int .i64 t0)).new W1.heap.size 1 (Nat.ne_of_lt y102_B4) (.int .i64 t1)).new W1.heap.size 2 (Nat.ne_of_lt y102_B4) (.int .i64 t2)).new (W1.heap.size + 1) 0 (Nat.ne_of_lt y105_B4) (.int .i64 y0)).new (W1.heap.size + 1) 1 (Nat.ne_of_lt y105_B4) (.int .i64 y1)).new (W1.heap.size + 1) 2 (Nat.ne_of_lt y105_B4) (.int .i64 y2)) ((((((B5_8.new W1.heap.size 0 (Nat.ne_of_lt y102_B5) (.int .i64 t0)).new W1.heap.size 1 (Nat.ne_of_lt y102_B5) (.int .i64 t1)).new W1.heap.size 2 (Nat.ne_of_lt y102_B5) (.int .i64 t2)).new (W1.heap.size + 1) 0 (Nat.ne_of_lt y105_B5) (.int .i64 y0)).new (W1.heap.size + 1) 1 (Nat.ne_of_lt y105_B5) (.int .i64 y1)).new (W1.heap.size + 1) 2 (Nat.ne_of_lt y105_B5) (.int .i64 y2)) ((((((B6_8.put 0 (of_decide_eq_true rfl) (.int .i64 t0) [.int .i64 t0, .int .i64 0, .int .i64 0] rfl).put 1 (of_decide_eq_true rfl) (.int .i64 t1) [.int .i64 t0, .int .i64 t1, .int .i64 0] rfl).put 2 (of_decide_eq_true rfl) (.int .i64 t2) [.int .i64 t0, .int .i64 t1, .int .i64 t2] rfl).new (W1.heap.size + 1) 0 (Nat.ne_of_lt y105_B6) (.int .i64 y0)).new (W1.heap.size + 1) 1 (Nat.ne_of_lt y105_B6) (.int .i64 y1)).new (W1.heap.size + 1) 2 (Nat.ne_of_lt y105_B6) (.int .i64 y2)) ((((((B7_8.new W1.heap.size 0 (Nat.ne_of_gt y105_B6) (.int .i64 t0)).new W1.heap.size 1 (Nat.ne_of_gt y105_B6) (.int .i64 t1)).new W1.heap.size 2 (Nat.ne_of_gt y105_B6) (.int .i64 t2)).put 0 (of_decide_eq_true rfl) (.int .i64 y0) [.int .i64 y0, .int .i64 0, .int .i64 0] rfl).put 1 (of_decide_eq_true rfl) (.int .i64 y1) [.int .i64 y0, .int .i64 y1, .int .i64 0] rfl).put 2 (of_decide_eq_true rfl) (.int .i64 y2) [.int .i64 y0, .int .i64 y1, .int .i64 y2] rfl) y102_low y105_low y102_B0 y102_B1 y102_B2 y102_B3 y102_B4 y102_B5 y105_B0 y105_B1 y105_B2 y105_B3 y105_B4 y105_B5 (Nat.ne_of_lt y105_B6)
    · have y106_B0 : w.heap.size < W1.heap.size := B0_c1.lies
      have y106_B1 : w.heap.size + 1 < W1.heap.size := B1_c1.lies
      have y106_B2 : w1.heap.size < W1.heap.size := B2_c1.lies
      have y106_B3 : w2.heap.size < W1.heap.size := B3_c1.lies
      have y106_B4 : x1_0 < W1.heap.size := B4_c1.lies
      have y106_B5 : x1_1 < W1.heap.size := B5_c1.lies
      have y106_low : w.heap.size ≤ W1.heap.size := KC1.size
      go_simp
      clear hHeld
      refine hK.out _ _ ⟨(B3_c1.alloc _).drew, (B4_c1.alloc _).drew, (B5_c1.alloc _).drew⟩ (fun hHeld => ?_)
      clear hK K
      refine call_at2 (i0 := 3) (i1 := 8) (by kernel_rfl) rfl rfl (fun K hK => ?_) (fun K hK => ?_)
      · go_simp
        refine (qTurn_any w1.heap.size false (o0, o1, o2, o3) (a0, a1, a2) _ (B2_c1.alloc _).drew).mono ?_
        rintro e w7 ⟨rfl, f7, k7⟩
        rw [ht] at f7 ⊢
        dsimp only at f7 ⊢
        have K7 : Below w.heap.size w w7 := k7.on (Below.drew (bel_al KC1 _)) (by omega)
        have B0_7 : Arr w.heap.size [.int .i64 q.1, .int .i64 q.2.1, .int .i64 q.2.2.1, .int .i64 q.2.2.2] w7 := (B0_c1.alloc _).drew.kept k7 (Nat.ne_of_lt y86_B0)
        have B1_7 : Arr (w.heap.size + 1) [.int .i64 p.1, .int .i64 p.2.1, .int .i64 p.2.2.1, .int .i64 p.2.2.2.1, .int .i64 p.2.2.2.2.1, .int .i64 p.2.2.2.2.2] w7 := (B1_c1.alloc _).drew.kept k7 (Nat.ne_of_lt y86_B1)
        have B3_7 : Arr w2.heap.size [.int .i64 o0, .int .i64 o1, .int .i64 o2, .int .i64 o3] w7 := (B3_c1.alloc _).drew.kept k7 (Nat.ne_of_gt y87_B2)
        have B4_7 : Arr x1_0 [.int .i64 a0, .int .i64 a1, .int .i64 a2] w7 := (B4_c1.alloc _).drew.kept k7 (Nat.ne_of_gt s1_4)
        have B5_7 : Arr x1_1 [.int .i64 b0, .int .i64 b1, .int .i64 b2] w7 := (B5_c1.alloc _).drew.kept k7 (Nat.ne_of_gt s1_8)
        have B6_7 : Arr W1.heap.size [.int .i64 0, .int .i64 0, .int .i64 0] w7 := (Arr_at _ _ [.int .i64 0, .int .i64 0, .int .i64 0] _ (by simp)).drew.kept k7 (Nat.ne_of_gt y106_B2)
        have z7 := B6_7.lies
        have z7_B4 := B4_7.lies
        have z7_B5 := B5_7.lies
        clear hHeld
        refine hK.out _ _ ⟨B3_7, B4_7, B5_7⟩ (fun hHeld => ?_)
        clear hK K B0_c1 B1_c1 B2_c1 B3_c1 B4_c1 B5_c1 k7
        refine call_at2 (i0 := 7) (i1 := 8) (by kernel_rfl) rfl rfl (fun K hK => ?_) (fun K hK => ?_)
        · go_simp
          refine (qTurn_any w1.heap.size false (o0, o1, o2, o3) (b0, b1, b2) _ f7).mono ?_
          rintro e w8 ⟨rfl, f8, k8⟩
          rw [hy] at f8 ⊢
          dsimp only at f8 ⊢
          have K8 : Below w.heap.size w w8 := k8.on K7 (by omega)
          have B0_8 : Arr w.heap.size [.int .i64 q.1, .int .i64 q.2.1, .int .i64 q.2.2.1, .int .i64 q.2.2.2] w8 := B0_7.kept k8 (Nat.ne_of_lt y86_B0)
          have B1_8 : Arr (w.heap.size + 1) [.int .i64 p.1, .int .i64 p.2.1, .int .i64 p.2.2.1, .int .i64 p.2.2.2.1, .int .i64 p.2.2.2.2.1, .int .i64 p.2.2.2.2.2] w8 := B1_7.kept k8 (Nat.ne_of_lt y86_B1)
          have B3_8 : Arr w2.heap.size [.int .i64 o0, .int .i64 o1, .int .i64 o2, .int .i64 o3] w8 := B3_7.kept k8 (Nat.ne_of_gt y87_B2)
          have B4_8 : Arr x1_0 [.int .i64 a0, .int .i64 a1, .int .i64 a2] w8 := B4_7.kept k8 (Nat.ne_of_gt s1_4)
          have B5_8 : Arr x1_1 [.int .i64 b0, .int .i64 b1, .int .i64 b2] w8 := B5_7.kept k8 (Nat.ne_of_gt s1_8)
          have B6_8 : Arr W1.heap.size [.int .i64 0, .int .i64 0, .int .i64 0] w8 := B6_7.kept k8 (Nat.ne_of_gt y106_B2)
          have z8 := B6_8.lies
          have z8_B4 := B4_8.lies
          have z8_B5 := B5_8.lies
          clear hHeld
          refine hK.out _ _ ⟨B3_8, B4_8, B5_8⟩ (fun hHeld => ?_)
          clear hK K K7 B0_7 B1_7 f7 B3_7 B4_7 B5_7 B6_7 k8
          refine call_at (i := 8) (by kernel_rfl) rfl (fun K hK => ?_)
          have y107_B0 : w.heap.size < w8.heap.size := B0_8.lies
          have y107_B1 : w.heap.size + 1 < w8.heap.size := B1_8.lies
          have y107_B2 : w1.heap.size < w8.heap.size := f8.lies
          have y107_B3 : w2.heap.size < w8.heap.size := B3_8.lies
          have y107_B4 : x1_0 < w8.heap.size := B4_8.lies
          have y107_B5 : x1_1 < w8.heap.size := B5_8.lies
          have y107_B6 : W1.heap.size < w8.heap.size := B6_8.lies
          have y107_low : w.heap.size ≤ w8.heap.size := K8.size
          go_simp
          clear hHeld
          refine hK.out _ _ ⟨(B3_8.alloc _), (B4_8.alloc _), (B5_8.alloc _)⟩ (fun hHeld => ?_)
          clear hK K
          refine call_at (i := 10) (by kernel_rfl) rfl (fun K hK => ?_)
          go_simp
          clear hHeld
          refine hK.out _ _ ⟨(B3_8.alloc _), (B4_8.alloc _), (B5_8.alloc _)⟩ (fun hHeld => ?_)
          clear hK K
          refine call_at (i := 11) (by kernel_rfl) rfl (fun K hK => ?_)
          have c10_B6_0 : w8.cell? ⟨W1.heap.size, 0, none⟩ = some (.int .i64 0) := B6_8.c 0 (of_decide_eq_true rfl)
          have c10_B6_1 : w8.cell? ⟨W1.heap.size, 1, none⟩ = some (.int .i64 0) := B6_8.c 1 (of_decide_eq_true rfl)
          have c10_B6_2 : w8.cell? ⟨W1.heap.size, 2, none⟩ = some (.int .i64 0) := B6_8.c 2 (of_decide_eq_true rfl)
          have g10_B6_0 := B6_8.f 0 (of_decide_eq_true rfl)
          have g10_B6_1 := B6_8.f 1 (of_decide_eq_true rfl)
          have g10_B6_2 := B6_8.f 2 (of_decide_eq_true rfl)
          have l10_B6 := B6_8.lies
          go_simp
          clear hHeld
          refine hK.out _ _ ⟨((((B3_8.new W1.heap.size 0 (Nat.ne_of_lt y106_B3) (.int .i64 y0)).new W1.heap.size 1 (Nat.ne_of_lt y106_B3) (.int .i64 y1)).new W1.heap.size 2 (Nat.ne_of_lt y106_B3) (.int .i64 y2)).alloc _), ((((B4_8.new W1.heap.size 0 (Nat.ne_of_lt y106_B4) (.int .i64 y0)).new W1.heap.size 1 (Nat.ne_of_lt y106_B4) (.int .i64 y1)).new W1.heap.size 2 (Nat.ne_of_lt y106_B4) (.int .i64 y2)).alloc _), ((((B5_8.new W1.heap.size 0 (Nat.ne_of_lt y106_B5) (.int .i64 y0)).new W1.heap.size 1 (Nat.ne_of_lt y106_B5) (.int .i64 y1)).new W1.heap.size 2 (Nat.ne_of_lt y106_B5) (.int .i64 y2)).alloc _)⟩ (fun hHeld => ?_)
          clear hK K c10_B6_0 c10_B6_1 c10_B6_2 g10_B6_0 g10_B6_1 g10_B6_2 l10_B6
          refine wpAnyH_done (by kernel_rfl) ?_ _
          clear hHeld
          exact cont2 _ _ _ _ _ _ _ _ _ _ _ _ _ _ _ _ _ _ _ _ _ _ _ _ _ _ _ _ _ _ _ _ _ _ _ _ _ _ _ _ w8.heap.size W1.heap.size (bel_al (bel_new (bel_new (bel_new K8 _ _ y106_low _) _ _ y106_low _) _ _ y106_low _) _) ((((B0_8.new W1.heap.size 0 (Nat.ne_of_lt y106_B0) (.int .i64 y0)).new W1.heap.size 1 (Nat.ne_of_lt y106_B0) (.int .i64 y1)).new W1.heap.size 2 (Nat.ne_of_lt y106_B0) (.int .i64 y2)).alloc _) ((((B1_8.new W1.heap.size 0 (Nat.ne_of_lt y106_B1) (.int .i64 y0)).new W1.heap.size 1 (Nat.ne_of_lt y106_B1) (.int .i64 y1)).new W1.heap.size 2 (Nat.ne_of_lt y106_B1) (.int .i64 y2)).alloc _) ((((f8.new W1.heap.size 0 (Nat.ne_of_lt y106_B2) (.int .i64 y0)).new W1.heap.size 1 (Nat.ne_of_lt y106_B2) (.int .i64 y1)).new W1.heap.size 2 (Nat.ne_of_lt y106_B2) (.int .i64 y2)).alloc _) ((((B3_8.new W1.heap.size 0 (Nat.ne_of_lt y106_B3) (.int .i64 y0)).new W1.heap.size 1 (Nat.ne_of_lt y106_B3) (.int .i64 y1)).new W1.heap.size 2 (Nat.ne_of_lt y106_B3) (.int .i64 y2)).alloc _) ((((B4_8.new W1.heap.size 0 (Nat.ne_of_lt y106_B4) (.int .i64 y0)).new W1.heap.size 1 (Nat.ne_of_lt y106_B4) (.int .i64 y1)).new W1.heap.size 2 (Nat.ne_of_lt y106_B4) (.int .i64 y2)).alloc _) ((((B5_8.new W1.heap.size 0 (Nat.ne_of_lt y106_B5) (.int .i64 y0)).new W1.heap.size 1 (Nat.ne_of_lt y106_B5) (.int .i64 y1)).new W1.heap.size 2 (Nat.ne_of_lt y106_B5) (.int .i64 y2)).alloc _) (Arr_at _ _ [.int .i64 t0, .int .i64 t1, .int .i64 t2] _ (by simp)) ((((B6_8.put 0 (of_decide_eq_true rfl) (.int .i64 y0) [.int .i64 y0, .int .i64 0, .int .i64 0] rfl).put 1 (of_decide_eq_true rfl) (.int .i64 y1) [.int .i64 y0, .int .i64 y1, .int .i64 0] rfl).put 2 (of_decide_eq_true rfl) (.int .i64 y2) [.int .i64 y0, .int .i64 y1, .int .i64 y2] rfl).alloc _) y107_low y106_low y107_B0 y107_B1 y107_B2 y107_B3 y107_B4 y107_B5 y106_B0 y106_B1 y106_B2 y106_B3 y106_B4 y106_B5 (Nat.ne_of_gt y107_B6)
        · have y108_B0 : w.heap.size < w7.heap.size := B0_7.lies
          have y108_B1 : w.heap.size + 1 < w7.heap.size := B1_7.lies
          have y108_B2 : w1.heap.size < w7.heap.size := f7.lies
          have y108_B3 : w2.heap.size < w7.heap.size := B3_7.lies
          have y108_B4 : x1_0 < w7.heap.size := B4_7.lies
          have y108_B5 : x1_1 < w7.heap.size := B5_7.lies
          have y108_B6 : W1.heap.size < w7.heap.size := B6_7.lies
          have y108_low : w.heap.size ≤ w7.heap.size := K7.size
          go_simp
          clear hHeld
          refine hK.out _ _ ⟨(B3_7.alloc _), (B4_7.alloc _), (B5_7.alloc _)⟩ (fun hHeld => ?_)
          clear hK K
          refine call_at (i := 7) (by kernel_rfl) rfl (fun K hK => ?_)
          go_simp
          refine (qTurn_any w1.heap.size false (o0, o1, o2, o3) (b0, b1, b2) _ (f7.alloc _)).mono ?_
          rintro e w8 ⟨rfl, f8, k8⟩
          rw [hy] at f8 ⊢
          dsimp only at f8 ⊢
          have K8 : Below w.heap.size w w8 := k8.on (bel_al K7 _) (by omega)
          have B0_8 : Arr w.heap.size [.int .i64 q.1, .int .i64 q.2.1, .int .i64 q.2.2.1, .int .i64 q.2.2.2] w8 := (B0_7.alloc _).kept k8 (Nat.ne_of_lt y86_B0)
          have B1_8 : Arr (w.heap.size + 1) [.int .i64 p.1, .int .i64 p.2.1, .int .i64 p.2.2.1, .int .i64 p.2.2.2.1, .int .i64 p.2.2.2.2.1, .int .i64 p.2.2.2.2.2] w8 := (B1_7.alloc _).kept k8 (Nat.ne_of_lt y86_B1)
          have B3_8 : Arr w2.heap.size [.int .i64 o0, .int .i64 o1, .int .i64 o2, .int .i64 o3] w8 := (B3_7.alloc _).kept k8 (Nat.ne_of_gt y87_B2)
          have B4_8 : Arr x1_0 [.int .i64 a0, .int .i64 a1, .int .i64 a2] w8 := (B4_7.alloc _).kept k8 (Nat.ne_of_gt s1_4)
          have B5_8 : Arr x1_1 [.int .i64 b0, .int .i64 b1, .int .i64 b2] w8 := (B5_7.alloc _).kept k8 (Nat.ne_of_gt s1_8)
          have B6_8 : Arr W1.heap.size [.int .i64 0, .int .i64 0, .int .i64 0] w8 := (B6_7.alloc _).kept k8 (Nat.ne_of_gt y106_B2)
          have B7_8 : Arr w7.heap.size [.int .i64 0, .int .i64 0, .int .i64 0] w8 := (Arr_at _ _ [.int .i64 0, .int .i64 0, .int .i64 0] _ (by simp)).kept k8 (Nat.ne_of_gt y108_B2)
          have z8 := B7_8.lies
          have z8_B4 := B4_8.lies
          have z8_B5 := B5_8.lies
          clear hHeld
          refine hK.out _ _ ⟨B3_8, B4_8, B5_8⟩ (fun hHeld => ?_)
          clear hK K K7 B0_7 B1_7 f7 B3_7 B4_7 B5_7 B6_7 k8
          refine call_at (i := 10) (by kernel_rfl) rfl (fun K hK => ?_)
          have c9_B7_0 : w8.cell? ⟨w7.heap.size, 0, none⟩ = some (.int .i64 0) := B7_8.c 0 (of_decide_eq_true rfl)
          have c9_B7_1 : w8.cell? ⟨w7.heap.size, 1, none⟩ = some (.int .i64 0) := B7_8.c 1 (of_decide_eq_true rfl)
          have c9_B7_2 : w8.cell? ⟨w7.heap.size, 2, none⟩ = some (.int .i64 0) := B7_8.c 2 (of_decide_eq_true rfl)
          have g9_B7_0 := B7_8.f 0 (of_decide_eq_true rfl)
          have g9_B7_1 := B7_8.f 1 (of_decide_eq_true rfl)
          have g9_B7_2 := B7_8.f 2 (of_decide_eq_true rfl)
          go_simp
          clear hHeld
          refine hK.out _ _ ⟨(((B3_8.new w7.heap.size 0 (Nat.ne_of_lt y108_B3) (.int .i64 t0)).new w7.heap.size 1 (Nat.ne_of_lt y108_B3) (.int .i64 t1)).new w7.heap.size 2 (Nat.ne_of_lt y108_B3) (.int .i64 t2)), (((B4_8.new w7.heap.size 0 (Nat.ne_of_lt y108_B4) (.int .i64 t0)).new w7.heap.size 1 (Nat.ne_of_lt y108_B4) (.int .i64 t1)).new w7.heap.size 2 (Nat.ne_of_lt y108_B4) (.int .i64 t2)), (((B5_8.new w7.heap.size 0 (Nat.ne_of_lt y108_B5) (.int .i64 t0)).new w7.heap.size 1 (Nat.ne_of_lt y108_B5) (.int .i64 t1)).new w7.heap.size 2 (Nat.ne_of_lt y108_B5) (.int .i64 t2))⟩ (fun hHeld => ?_)
          clear hK K c9_B7_0 c9_B7_1 c9_B7_2 g9_B7_0 g9_B7_1 g9_B7_2
          refine call_at (i := 11) (by kernel_rfl) rfl (fun K hK => ?_)
          have c10_B6_0 : w8.cell? ⟨W1.heap.size, 0, none⟩ = some (.int .i64 0) := B6_8.c 0 (of_decide_eq_true rfl)
          have c10_B6_1 : w8.cell? ⟨W1.heap.size, 1, none⟩ = some (.int .i64 0) := B6_8.c 1 (of_decide_eq_true rfl)
          have c10_B6_2 : w8.cell? ⟨W1.heap.size, 2, none⟩ = some (.int .i64 0) := B6_8.c 2 (of_decide_eq_true rfl)
          have g10_B6_0 := B6_8.f 0 (of_decide_eq_true rfl)
          have g10_B6_1 := B6_8.f 1 (of_decide_eq_true rfl)
          have g10_B6_2 := B6_8.f 2 (of_decide_eq_true rfl)
          go_simp
          clear hHeld
          refine hK.out _ _ ⟨((((((B3_8.new w7.heap.size 0 (Nat.ne_of_lt y108_B3) (.int .i64 t0)).new w7.heap.size 1 (Nat.ne_of_lt y108_B3) (.int .i64 t1)).new w7.heap.size 2 (Nat.ne_of_lt y108_B3) (.int .i64 t2)).new W1.heap.size 0 (Nat.ne_of_lt y106_B3) (.int .i64 y0)).new W1.heap.size 1 (Nat.ne_of_lt y106_B3) (.int .i64 y1)).new W1.heap.size 2 (Nat.ne_of_lt y106_B3) (.int .i64 y2)), ((((((B4_8.new w7.heap.size 0 (Nat.ne_of_lt y108_B4) (.int .i64 t0)).new w7.heap.size 1 (Nat.ne_of_lt y108_B4) (.int .i64 t1)).new w7.heap.size 2 (Nat.ne_of_lt y108_B4) (.int .i64 t2)).new W1.heap.size 0 (Nat.ne_of_lt y106_B4) (.int .i64 y0)).new W1.heap.size 1 (Nat.ne_of_lt y106_B4) (.int .i64 y1)).new W1.heap.size 2 (Nat.ne_of_lt y106_B4) (.int .i64 y2)), ((((((B5_8.new w7.heap.size 0 (Nat.ne_of_lt y108_B5) (.int .i64 t0)).new w7.heap.size 1 (Nat.ne_of_lt y108_B5) (.int .i64 t1)).new w7.heap.size 2 (Nat.ne_of_lt y108_B5) (.int .i64 t2)).new W1.heap.size 0 (Nat.ne_of_lt y106_B5) (.int .i64 y0)).new W1.heap.size 1 (Nat.ne_of_lt y106_B5) (.int .i64 y1)).new W1.heap.size 2 (Nat.ne_of_lt y106_B5) (.int .i64 y2))⟩ (fun hHeld => ?_)
          clear hK K c10_B6_0 c10_B6_1 c10_B6_2 g10_B6_0 g10_B6_1 g10_B6_2
          refine wpAnyH_done (by kernel_rfl) ?_ _
          clear hHeld
          exact cont2 _ _ _ _ _ _ _ _ _ _ _ _ _ _ _ _ _ _ _ _ _ _ _ _ _ _ _ _ _ _ _ _ _ _ _ _ _ _ _ _ w7.heap.size W1.heap.size (bel_new (bel_new (bel_new (bel_new (bel_new (bel_new K8 _ _ y108_low _) _ _ y108_low _) _ _ y108_low _) _ _ y106_low _) _ _ y106_low _) _ _ y106_low _) ((((((B0_8.new w7.heap.size 0 (Nat.ne_of_lt y108_B0) (.int .i64 t0)).new w7.heap.size 1 (Nat.ne_of_lt y108_B0) (.int .i64 t1)).new w7.heap.size 2 (Nat.ne_of_lt y108_B0) (.int .i64 t2)).new W1.heap.size 0 (Nat.ne_of_lt y106_B0) (.int .i64 y0)).new W1.heap.size 1 (Nat.ne_of_lt y106_B0) (.int .i64 y1)).new W1.heap.size 2 (Nat.ne_of_lt y106_B0) (.int .i64 y2)) ((((((B1_8.new w7.heap.size 0 (Nat.ne_of_lt y108_B1) (.int .i64 t0)).new w7.heap.size 1 (Nat.ne_of_lt y108_B1) (.int .i64 t1)).new w7.heap.size 2 (Nat.ne_of_lt y108_B1) (.int .i64 t2)).new W1.heap.size 0 (Nat.ne_of_lt y106_B1) (.int .i64 y0)).new W1.heap.size 1 (Nat.ne_of_lt y106_B1) (.int .i64 y1)).new W1.heap.size 2 (Nat.ne_of_lt y106_B1) (.int .i64 y2)) ((((((f8.new w7.heap.size 0 (Nat.ne_of_lt y108_B2) (.int .i64 t0)).new w7.heap.size 1 (Nat.ne_of_lt y108_B2) (.int .i64 t1)).new w7.heap.size 2 (Nat.ne_of_lt y108_B2) (.int .i64 t2)).new W1.heap.size 0 (Nat.ne_of_lt y106_B2) (.int .i64 y0)).new W1.heap.size 1 (Nat.ne_of_lt y106_B2) (.int .i64 y1)).new W1.heap.size 2 (Nat.ne_of_lt y106_B2) (.int .i64 y2)) ((((((B3_8.new w7.heap.size 0 (Nat.ne_of_lt y108_B3) (.int .i64 t0)).new w7.heap.size 1 (Nat.ne_of_lt y108_B3) (.int .i64 t1)).new w7.heap.size 2 (Nat.ne_of_lt y108_B3) (.int .i64 t2)).new W1.heap.size 0 (Nat.ne_of_lt y106_B3) (.int .i64 y0)).new W1.heap.size 1 (Nat.ne_of_lt y106_B3) (.int .i64 y1)).new W1.heap.size 2 (Nat.ne_of_lt y106_B3) (.int .i64 y2)) ((((((B4_8.new w7.heap.size 0 (Nat.ne_of_lt y108_B4) (.int .i64 t0)).new w7.heap.size 1 (Nat.ne_of_lt y108_B4) (.int .i64 t1)).new w7.heap.size 2 (Nat.ne_of_lt y108_B4) (.int .i64 t2)).new W1.heap.size 0 (Nat.ne_of_lt y106_B4) (.int .i64 y0)).new W1.heap.size 1 (Nat.ne_of_lt y106_B4) (.int .i64 y1)).new W1.heap.size 2 (Nat.ne_of_lt y106_B4) (.int .i64 y2)) ((((((B5_8.new w7.heap.size 0 (Nat.ne_of_lt y108_B5) (.int .i64 t0)).new w7.heap.size 1 (Nat.ne_of_lt y108_B5) (.int .i64 t1)).new w7.heap.size 2 (Nat.ne_of_lt y108_B5) (.int .i64 t2)).new W1.heap.size 0 (Nat.ne_of_lt y106_B5) (.int .i64 y0)).new W1.heap.size 1 (Nat.ne_of_lt y106_B5) (.int .i64 y1)).new W1.heap.size 2 (Nat.ne_of_lt y106_B5) (.int .i64 y2)) ((((((B7_8.put 0 (of_decide_eq_true rfl) (.int .i64 t0) [.int .i64 t0, .int .i64 0, .int .i64 0] rfl).put 1 (of_decide_eq_true rfl) (.int .i64 t1) [.int .i64 t0, .int .i64 t1, .int .i64 0] rfl).put 2 (of_decide_eq_true rfl) (.int .i64 t2) [.int .i64 t0, .int .i64 t1, .int .i64 t2] rfl).new W1.heap.size 0 (Nat.ne_of_gt y108_B6) (.int .i64 y0)).new W1.heap.size 1 (Nat.ne_of_gt y108_B6) (.int .i64 y1)).new W1.heap.size 2 (Nat.ne_of_gt y108_B6) (.int .i64 y2)) ((((((B6_8.new w7.heap.size 0 (Nat.ne_of_lt y108_B6) (.int .i64 t0)).new w7.heap.size 1 (Nat.ne_of_lt y108_B6) (.int .i64 t1)).new w7.heap.size 2 (Nat.ne_of_lt y108_B6) (.int .i64 t2)).put 0 (of_decide_eq_true rfl) (.int .i64 y0) [.int .i64 y0, .int .i64 0, .int .i64 0] rfl).put 1 (of_decide_eq_true rfl) (.int .i64 y1) [.int .i64 y0, .int .i64 y1, .int .i64 0] rfl).put 2 (of_decide_eq_true rfl) (.int .i64 y2) [.int .i64 y0, .int .i64 y1, .int .i64 y2] rfl) y108_low y106_low y108_B0 y108_B1 y108_B2 y108_B3 y108_B4 y108_B5 y106_B0 y106_B1 y106_B2 y106_B3 y106_B4 y106_B5 (Nat.ne_of_gt y108_B6)
      · have y109_B0 : w.heap.size < W1.heap.size + 1 := (Nat.lt_succ_of_lt B0_c1.lies)
        have y109_B1 : w.heap.size + 1 < W1.heap.size + 1 := (Nat.lt_succ_of_lt B1_c1.lies)
        have y109_B2 : w1.heap.size < W1.heap.size + 1 := (Nat.lt_succ_of_lt B2_c1.lies)
        have y109_B3 : w2.heap.size < W1.heap.size + 1 := (Nat.lt_succ_of_lt B3_c1.lies)
        have y109_B4 : x1_0 < W1.heap.size + 1 := (Nat.lt_succ_of_lt B4_c1.lies)
        have y109_B5 : x1_1 < W1.heap.size + 1 := (Nat.lt_succ_of_lt B5_c1.lies)
        have y109_B6 : W1.heap.size < W1.heap.size + 1 := (Nat.lt_succ_self _)
        have y109_low : w.heap.size ≤ W1.heap.size + 1 := (Nat.le_succ_of_le KC1.size)
        go_simp
        clear hHeld
        refine hK.out _ _ ⟨((B3_c1.alloc _).alloc _).drew, ((B4_c1.alloc _).alloc _).drew, ((B5_c1.alloc _).alloc _).drew⟩ (fun hHeld => ?_)
        clear hK K
        refine call_at (i := 3) (by kernel_rfl) rfl (fun K hK => ?_)
        go_simp
        refine (qTurn_any w1.heap.size false (o0, o1, o2, o3) (a0, a1, a2) _ ((B2_c1.alloc _).alloc _).drew).mono ?_
        rintro e w7 ⟨rfl, f7, k7⟩
        rw [ht] at f7 ⊢
        dsimp only at f7 ⊢
        have K7 : Below w.heap.size w w7 := k7.on (Below.drew (bel_al (bel_al KC1 _) _)) (by omega)
        have B0_7 : Arr w.heap.size [.int .i64 q.1, .int .i64 q.2.1, .int .i64 q.2.2.1, .int .i64 q.2.2.2] w7 := ((B0_c1.alloc _).alloc _).drew.kept k7 (Nat.ne_of_lt y86_B0)
        have B1_7 : Arr (w.heap.size + 1) [.int .i64 p.1, .int .i64 p.2.1, .int .i64 p.2.2.1, .int .i64 p.2.2.2.1, .int .i64 p.2.2.2.2.1, .int .i64 p.2.2.2.2.2] w7 := ((B1_c1.alloc _).alloc _).drew.kept k7 (Nat.ne_of_lt y86_B1)
        have B3_7 : Arr w2.heap.size [.int .i64 o0, .int .i64 o1, .int .i64 o2, .int .i64 o3] w7 := ((B3_c1.alloc _).alloc _).drew.kept k7 (Nat.ne_of_gt y87_B2)
        have B4_7 : Arr x1_0 [.int .i64 a0, .int .i64 a1, .int .i64 a2] w7 := ((B4_c1.alloc _).alloc _).drew.kept k7 (Nat.ne_of_gt s1_4)
        have B5_7 : Arr x1_1 [.int .i64 b0, .int .i64 b1, .int .i64 b2] w7 := ((B5_c1.alloc _).alloc _).drew.kept k7 (Nat.ne_of_gt s1_8)
        have B6_7 : Arr W1.heap.size [.int .i64 0, .int .i64 0, .int .i64 0] w7 := ((Arr_at _ _ [.int .i64 0, .int .i64 0, .int .i64 0] _ (by simp)).alloc _).drew.kept k7 (Nat.ne_of_gt y106_B2)
        have B7_7 : Arr (W1.heap.size + 1) [.int .i64 0, .int .i64 0, .int .i64 0] w7 := (Arr_at _ _ [.int .i64 0, .int .i64 0, .int .i64 0] _ (by simp)).drew.kept k7 (Nat.ne_of_gt y109_B2)
        have z7 := B7_7.lies
        have z7_B4 := B4_7.lies
        have z7_B5 := B5_7.lies
        clear hHeld
        refine hK.out _ _ ⟨B3_7, B4_7, B5_7⟩ (fun hHeld => ?_)
        clear hK K B0_c1 B1_c1 B2_c1 B3_c1 B4_c1 B5_c1 k7
        refine call_at (i := 7) (by kernel_rfl) rfl (fun K hK => ?_)
        go_simp
        refine (qTurn_any w1.heap.size false (o0, o1, o2, o3) (b0, b1, b2) _ f7).mono ?_
        rintro e w8 ⟨rfl, f8, k8⟩
        rw [hy] at f8 ⊢
        dsimp only at f8 ⊢
        have K8 : Below w.heap.size w w8 := k8.on K7 (by omega)
        have B0_8 : Arr w.heap.size [.int .i64 q.1, .int .i64 q.2.1, .int .i64 q.2.2.1, .int .i64 q.2.2.2] w8 := B0_7.kept k8 (Nat.ne_of_lt y86_B0)
        have B1_8 : Arr (w.heap.size + 1) [.int .i64 p.1, .int .i64 p.2.1, .int .i64 p.2.2.1, .int .i64 p.2.2.2.1, .int .i64 p.2.2.2.2.1, .int .i64 p.2.2.2.2.2] w8 := B1_7.kept k8 (Nat.ne_of_lt y86_B1)
        have B3_8 : Arr w2.heap.size [.int .i64 o0, .int .i64 o1, .int .i64 o2, .int .i64 o3] w8 := B3_7.kept k8 (Nat.ne_of_gt y87_B2)
        have B4_8 : Arr x1_0 [.int .i64 a0, .int .i64 a1, .int .i64 a2] w8 := B4_7.kept k8 (Nat.ne_of_gt s1_4)
        have B5_8 : Arr x1_1 [.int .i64 b0, .int .i64 b1, .int .i64 b2] w8 := B5_7.kept k8 (Nat.ne_of_gt s1_8)
        have B6_8 : Arr W1.heap.size [.int .i64 0, .int .i64 0, .int .i64 0] w8 := B6_7.kept k8 (Nat.ne_of_gt y106_B2)
        have B7_8 : Arr (W1.heap.size + 1) [.int .i64 0, .int .i64 0, .int .i64 0] w8 := B7_7.kept k8 (Nat.ne_of_gt y109_B2)
        have z8 := B7_8.lies
        have z8_B4 := B4_8.lies
        have z8_B5 := B5_8.lies
        clear hHeld
        refine hK.out _ _ ⟨B3_8, B4_8, B5_8⟩ (fun hHeld => ?_)
        clear hK K K7 B0_7 B1_7 f7 B3_7 B4_7 B5_7 B6_7 B7_7 k8
        refine call_at (i := 10) (by kernel_rfl) rfl (fun K hK => ?_)
        have c9_B7_0 : w8.cell? ⟨W1.heap.size + 1, 0, none⟩ = some (.int .i64 0) := B7_8.c 0 (of_decide_eq_true rfl)
        have c9_B7_1 : w8.cell? ⟨W1.heap.size + 1, 1, none⟩ = some (.int .i64 0) := B7_8.c 1 (of_decide_eq_true rfl)
        have c9_B7_2 : w8.cell? ⟨W1.heap.size + 1, 2, none⟩ = some (.int .i64 0) := B7_8.c 2 (of_decide_eq_true rfl)
        have g9_B7_0 := B7_8.f 0 (of_decide_eq_true rfl)
        have g9_B7_1 := B7_8.f 1 (of_decide_eq_true rfl)
        have g9_B7_2 := B7_8.f 2 (of_decide_eq_true rfl)
        go_simp
        clear hHeld
        refine hK.out _ _ ⟨(((B3_8.new (W1.heap.size + 1) 0 (Nat.ne_of_lt y109_B3) (.int .i64 t0)).new (W1.heap.size + 1) 1 (Nat.ne_of_lt y109_B3) (.int .i64 t1)).new (W1.heap.size + 1) 2 (Nat.ne_of_lt y109_B3) (.int .i64 t2)), (((B4_8.new (W1.heap.size + 1) 0 (Nat.ne_of_lt y109_B4) (.int .i64 t0)).new (W1.heap.size + 1) 1 (Nat.ne_of_lt y109_B4) (.int .i64 t1)).new (W1.heap.size + 1) 2 (Nat.ne_of_lt y109_B4) (.int .i64 t2)), (((B5_8.new (W1.heap.size + 1) 0 (Nat.ne_of_lt y109_B5) (.int .i64 t0)).new (W1.heap.size + 1) 1 (Nat.ne_of_lt y109_B5) (.int .i64 t1)).new (W1.heap.size + 1) 2 (Nat.ne_of_lt y109_B5) (.int .i64 t2))⟩ (fun hHeld => ?_)
        clear hK K c9_B7_0 c9_B7_1 c9_B7_2 g9_B7_0 g9_B7_1 g9_B7_2
        refine call_at (i := 11) (by kernel_rfl) rfl (fun K hK => ?_)
        have c10_B6_0 : w8.cell? ⟨W1.heap.size, 0, none⟩ = some (.int .i64 0) := B6_8.c 0 (of_decide_eq_true rfl)
        have c10_B6_1 : w8.cell? ⟨W1.heap.size, 1, none⟩ = some (.int .i64 0) := B6_8.c 1 (of_decide_eq_true rfl)
        have c10_B6_2 : w8.cell? ⟨W1.heap.size, 2, none⟩ = some (.int .i64 0) := B6_8.c 2 (of_decide_eq_true rfl)
        have g10_B6_0 := B6_8.f 0 (of_decide_eq_true rfl)
        have g10_B6_1 := B6_8.f 1 (of_decide_eq_true rfl)
        have g10_B6_2 := B6_8.f 2 (of_decide_eq_true rfl)
        go_simp
        clear hHeld
        refine hK.out _ _ ⟨((((((B3_8.new (W1.heap.size + 1) 0 (Nat.ne_of_lt y109_B3) (.int .i64 t0)).new (W1.heap.size + 1) 1 (Nat.ne_of_lt y109_B3) (.int .i64 t1)).new (W1.heap.size + 1) 2 (Nat.ne_of_lt y109_B3) (.int .i64 t2)).new W1.heap.size 0 (Nat.ne_of_lt y106_B3) (.int .i64 y0)).new W1.heap.size 1 (Nat.ne_of_lt y106_B3) (.int .i64 y1)).new W1.heap.size 2 (Nat.ne_of_lt y106_B3) (.int .i64 y2)), ((((((B4_8.new (W1.heap.size + 1) 0 (Nat.ne_of_lt y109_B4) (.int .i64 t0)).new (W1.heap.size + 1) 1 (Nat.ne_of_lt y109_B4) (.int .i64 t1)).new (W1.heap.size + 1) 2 (Nat.ne_of_lt y109_B4) (.int .i64 t2)).new W1.heap.size 0 (Nat.ne_of_lt y106_B4) (.int .i64 y0)).new W1.heap.size 1 (Nat.ne_of_lt y106_B4) (.int .i64 y1)).new W1.heap.size 2 (Nat.ne_of_lt y106_B4) (.int .i64 y2)), ((((((B5_8.new (W1.heap.size + 1) 0 (Nat.ne_of_lt y109_B5) (.int .i64 t0)).new (W1.heap.size + 1) 1 (Nat.ne_of_lt y109_B5) (.int .i64 t1)).new (W1.heap.size + 1) 2 (Nat.ne_of_lt y109_B5) (.int .i64 t2)).new W1.heap.size 0 (Nat.ne_of_lt y106_B5) (.int .i64 y0)).new W1.heap.size 1 (Nat.ne_of_lt y106_B5) (.int .i64 y1)).new W1.heap.size 2 (Nat.ne_of_lt y106_B5) (.int .i64 y2))⟩ (fun hHeld => ?_)
        clear hK K c10_B6_0 c10_B6_1 c10_B6_2 g10_B6_0 g10_B6_1 g10_B6_2
        refine wpAnyH_done (by kernel_rfl) ?_ _
        clear hHeld
        exact cont2 _ _ _ _ _ _ _ _ _ _ _ _ _ _ _ _ _ _ _ _ _ _ _ _ _ _ _ _ _ _ _ _ _ _ _ _ _ _ _ _ (W1.heap.size + 1) W1.heap.size (bel_new (bel_new (bel_new (bel_new (bel_new (bel_new K8 _ _ y109_low _) _ _ y109_low _) _ _ y109_low _) _ _ y106_low _) _ _ y106_low _) _ _ y106_low _) ((((((B0_8.new (W1.heap.size + 1) 0 (Nat.ne_of_lt y109_B0) (.int .i64 t0)).new (W1.heap.size + 1) 1 (Nat.ne_of_lt y109_B0) (.int .i64 t1)).new (W1.heap.size + 1) 2 (Nat.ne_of_lt y109_B0) (.int .i64 t2)).new W1.heap.size 0 (Nat.ne_of_lt y106_B0) (.int .i64 y0)).new W1.heap.size 1 (Nat.ne_of_lt y106_B0) (.int .i64 y1)).new W1.heap.size 2 (Nat.ne_of_lt y106_B0) (.int .i64 y2)) ((((((B1_8.new (W1.heap.size + 1) 0 (Nat.ne_of_lt y109_B1) (.int .i64 t0)).new (W1.heap.size + 1) 1 (Nat.ne_of_lt y109_B1) (.int .i64 t1)).new (W1.heap.size + 1) 2 (Nat.ne_of_lt y109_B1) (.int .i64 t2)).new W1.heap.size 0 (Nat.ne_of_lt y106_B1) (.int .i64 y0)).new W1.heap.size 1 (Nat.ne_of_lt y106_B1) (.int .i64 y1)).new W1.heap.size 2 (Nat.ne_of_lt y106_B1) (.int .i64 y2)) ((((((f8.new (W1.heap.size + 1) 0 (Nat.ne_of_lt y109_B2) (.int .i64 t0)).new (W1.heap.size + 1) 1 (Nat.ne_of_lt y109_B2) (.int .i64 t1)).new (W1.heap.size + 1) 2 (Nat.ne_of_lt y109_B2) (.int .i64 t2)).new W1.heap.size 0 (Nat.ne_of_lt y106_B2) (.int .i64 y0)).new W1.heap.size 1 (Nat.ne_of_lt y106_B2) (.int .i64 y1)).new W1.heap.size 2 (Nat.ne_of_lt y106_B2) (.int .i64 y2)) ((((((B3_8.new (W1.heap.size + 1) 0 (Nat.ne_of_lt y109_B3) (.int .i64 t0)).new (W1.heap.size + 1) 1 (Nat.ne_of_lt y109_B3) (.int .i64 t1)).new (W1.heap.size + 1) 2 (Nat.ne_of_lt y109_B3) (.int .i64 t2)).new W1.heap.size 0 (Nat.ne_of_lt y106_B3) (.int .i64 y0)).new W1.heap.size 1 (Nat.ne_of_lt y106_B3) (.int .i64 y1)).new W1.heap.size 2 (Nat.ne_of_lt y106_B3) (.int .i64 y2)) ((((((B4_8.new (W1.heap.size + 1) 0 (Nat.ne_of_lt y109_B4) (.int .i64 t0)).new (W1.heap.size + 1) 1 (Nat.ne_of_lt y109_B4) (.int .i64 t1)).new (W1.heap.size + 1) 2 (Nat.ne_of_lt y109_B4) (.int .i64 t2)).new W1.heap.size 0 (Nat.ne_of_lt y106_B4) (.int .i64 y0)).new W1.heap.size 1 (Nat.ne_of_lt y106_B4) (.int .i64 y1)).new W1.heap.size 2 (Nat.ne_of_lt y106_B4) (.int .i64 y2)) ((((((B5_8.new (W1.heap.size + 1) 0 (Nat.ne_of_lt y109_B5) (.int .i64 t0)).new (W1.heap.size + 1) 1 (Nat.ne_of_lt y109_B5) (.int .i64 t1)).new (W1.heap.size + 1) 2 (Nat.ne_of_lt y109_B5) (.int .i64 t2)).new W1.heap.size 0 (Nat.ne_of_lt y106_B5) (.int .i64 y0)).new W1.heap.size 1 (Nat.ne_of_lt y106_B5) (.int .i64 y1)).new W1.heap.size 2 (Nat.ne_of_lt y106_B5) (.int .i64 y2)) ((((((B7_8.put 0 (of_decide_eq_true rfl) (.int .i64 t0) [.int .i64 t0, .int .i64 0, .int .i64 0] rfl).put 1 (of_decide_eq_true rfl) (.int .i64 t1) [.int .i64 t0, .int .i64 t1, .int .i64 0] rfl).put 2 (of_decide_eq_true rfl) (.int .i64 t2) [.int .i64 t0, .int .i64 t1, .int .i64 t2] rfl).new W1.heap.size 0 (Nat.ne_of_gt y109_B6) (.int .i64 y0)).new W1.heap.size 1 (Nat.ne_of_gt y109_B6) (.int .i64 y1)).new W1.heap.size 2 (Nat.ne_of_gt y109_B6) (.int .i64 y2)) ((((((B6_8.new (W1.heap.size + 1) 0 (Nat.ne_of_lt y109_B6) (.int .i64 t0)).new (W1.heap.size + 1) 1 (Nat.ne_of_lt y109_B6) (.int .i64 t1)).new (W1.heap.size + 1) 2 (Nat.ne_of_lt y109_B6) (.int .i64 t2)).put 0 (of_decide_eq_true rfl) (.int .i64 y0) [.int .i64 y0, .int .i64 0, .int .i64 0] rfl).put 1 (of_decide_eq_true rfl) (.int .i64 y1) [.int .i64 y0, .int .i64 y1, .int .i64 0] rfl).put 2 (of_decide_eq_true rfl) (.int .i64 y2) [.int .i64 y0, .int .i64 y1, .int .i64 y2] rfl) y109_low y106_low y109_B0 y109_B1 y109_B2 y109_B3 y109_B4 y109_B5 y106_B0 y106_B1 y106_B2 y106_B3 y106_B4 y106_B5 (Nat.ne_of_gt y109_B6)
  refine wp_region_held_drew (S := fun w' => Arr (w.heap.size + 1) [.int .i64 p.1, .int .i64 p.2.1, .int .i64 p.2.2.1, .int .i64 p.2.2.2.1, .int .i64 p.2.2.2.2.1, .int .i64 p.2.2.2.2.2] w') (by kernel_rfl) B1_4.drew (fun hHeld => ?_)
  refine take_at (i := 0) (v := ?v10) rfl (by kernel_rfl) (by kernel_rfl) (by kernel_rfl) (fun _ _ _ h => h) (Or.inl ⟨by rfl, ?y10⟩) hHeld ?t10
  case y10 => (intro wx hSw; go_simp <;> with_reducible rfl)
  simp only [Act.put, List.setIfInBounds_toArray, List.set_cons_zero, List.set_cons_succ]
  refine take_at (i := 1) (v := ?v11) rfl (by kernel_rfl) (by kernel_rfl) (by kernel_rfl) (fun _ _ _ h => h) (Or.inl ⟨by rfl, ?y11⟩) hHeld ?t11
  case y11 => (intro wx hSw; go_simp <;> with_reducible rfl)
  simp only [Act.put, List.setIfInBounds_toArray, List.set_cons_zero, List.set_cons_succ]
  refine take_at (i := 2) (v := ?v12) rfl (by kernel_rfl) (by kernel_rfl) (by kernel_rfl) (fun _ _ _ h => h) (Or.inl ⟨by rfl, ?y12⟩) hHeld ?t12
  case y12 => (intro wx hSw; have hc0 : wx.cell? ⟨w.heap.size + 1, 0, none⟩ = some (.int .i64 p.1) := hSw.c 0 (of_decide_eq_true rfl); have hc1 : wx.cell? ⟨w.heap.size + 1, 1, none⟩ = some (.int .i64 p.2.1) := hSw.c 1 (of_decide_eq_true rfl); have hc2 : wx.cell? ⟨w.heap.size + 1, 2, none⟩ = some (.int .i64 p.2.2.1) := hSw.c 2 (of_decide_eq_true rfl); go_simp <;> with_reducible rfl)
  simp only [Act.put, List.setIfInBounds_toArray, List.set_cons_zero, List.set_cons_succ]
  refine take_at (i := 4) (v := ?v13) rfl (by kernel_rfl) (by kernel_rfl) (by kernel_rfl) (fun _ _ _ h => h) (Or.inl ⟨by rfl, ?y13⟩) hHeld ?t13
  case y13 => (intro wx hSw; go_simp <;> with_reducible rfl)
  simp only [Act.put, List.setIfInBounds_toArray, List.set_cons_zero, List.set_cons_succ]
  refine take_at (i := 5) (v := ?v14) rfl (by kernel_rfl) (by kernel_rfl) (by kernel_rfl) (fun _ _ _ h => h) (Or.inl ⟨by rfl, ?y14⟩) hHeld ?t14
  case y14 => (intro wx hSw; go_simp <;> with_reducible rfl)
  simp only [Act.put, List.setIfInBounds_toArray, List.set_cons_zero, List.set_cons_succ]
  refine take_at (i := 6) (v := ?v15) rfl (by kernel_rfl) (by kernel_rfl) (by kernel_rfl) (fun _ _ _ h => h) (Or.inl ⟨by rfl, ?y15⟩) hHeld ?t15
  case y15 => (intro wx hSw; have hc3 : wx.cell? ⟨w.heap.size + 1, 3, none⟩ = some (.int .i64 p.2.2.2.1) := hSw.c 3 (of_decide_eq_true rfl); have hc4 : wx.cell? ⟨w.heap.size + 1, 4, none⟩ = some (.int .i64 p.2.2.2.2.1) := hSw.c 4 (of_decide_eq_true rfl); have hc5 : wx.cell? ⟨w.heap.size + 1, 5, none⟩ = some (.int .i64 p.2.2.2.2.2) := hSw.c 5 (of_decide_eq_true rfl); go_simp <;> with_reducible rfl)
  simp only [Act.put, List.setIfInBounds_toArray, List.set_cons_zero, List.set_cons_succ]
  refine call_at3 (i0 := 3) (i1 := 8) (i2 := 9) (by kernel_rfl) rfl rfl rfl (fun K hK => ?_) (fun K hK => ?_) (fun K hK => ?_)
  · go_simp
    refine (vUnit_any w1.heap.size false (p.1, p.2.1, p.2.2.1) _ B2_4.drew).mono ?_
    rintro e w5 ⟨rfl, f5, k5⟩
    rw [ha] at f5 ⊢
    dsimp only at f5 ⊢
    have K5 : Below w.heap.size w w5 := k5.on (Below.drew K4) (by omega)
    have B0_5 : Arr w.heap.size [.int .i64 q.1, .int .i64 q.2.1, .int .i64 q.2.2.1, .int .i64 q.2.2.2] w5 := B0_4.drew.kept k5 (Nat.ne_of_lt y86_B0)
    have B1_5 : Arr (w.heap.size + 1) [.int .i64 p.1, .int .i64 p.2.1, .int .i64 p.2.2.1, .int .i64 p.2.2.2.1, .int .i64 p.2.2.2.2.1, .int .i64 p.2.2.2.2.2] w5 := B1_4.drew.kept k5 (Nat.ne_of_lt y86_B1)
    have B3_5 : Arr w2.heap.size [.int .i64 o0, .int .i64 o1, .int .i64 o2, .int .i64 o3] w5 := B3_4.drew.kept k5 (Nat.ne_of_gt y87_B2)
    have z5 := B3_5.lies
    clear hHeld
    refine hK.out _ _ B1_5 (fun hHeld => ?_)
    clear hK K K4 B0_4 B1_4 B2_4 B3_4 k5
    refine call_at3 (i0 := 7) (i1 := 8) (i2 := 9) (by kernel_rfl) rfl rfl rfl (fun K hK => ?_) (fun K hK => ?_) (fun K hK => ?_)
    · go_simp
      refine (vUnit_any w1.heap.size false p.2.2.2 _ f5).mono ?_
      rintro e w6 ⟨rfl, f6, k6⟩
      rw [hb] at f6 ⊢
      dsimp only at f6 ⊢
      have K6 : Below w.heap.size w w6 := k6.on K5 (by omega)
      have B0_6 : Arr w.heap.size [.int .i64 q.1, .int .i64 q.2.1, .int .i64 q.2.2.1, .int .i64 q.2.2.2] w6 := B0_5.kept k6 (Nat.ne_of_lt y86_B0)
      have B1_6 : Arr (w.heap.size + 1) [.int .i64 p.1, .int .i64 p.2.1, .int .i64 p.2.2.1, .int .i64 p.2.2.2.1, .int .i64 p.2.2.2.2.1, .int .i64 p.2.2.2.2.2] w6 := B1_5.kept k6 (Nat.ne_of_lt y86_B1)
      have B3_6 : Arr w2.heap.size [.int .i64 o0, .int .i64 o1, .int .i64 o2, .int .i64 o3] w6 := B3_5.kept k6 (Nat.ne_of_gt y87_B2)
      have z6 := B3_6.lies
      clear hHeld
      refine hK.out _ _ B1_6 (fun hHeld => ?_)
      clear hK K K5 B0_5 B1_5 f5 B3_5 k6
      refine call_at2 (i0 := 8) (i1 := 9) (by kernel_rfl) rfl rfl (fun K hK => ?_) (fun K hK => ?_)
      · have y110_B0 : w.heap.size < w6.heap.size := B0_6.lies
        have y110_B1 : w.heap.size + 1 < w6.heap.size := B1_6.lies
        have y110_B2 : w1.heap.size < w6.heap.size := f6.lies
        have y110_B3 : w2.heap.size < w6.heap.size := B3_6.lies
        have y110_low : w.heap.size ≤ w6.heap.size := K6.size
        go_simp
        clear hHeld
        refine hK.out _ _ (B1_6.alloc _) (fun hHeld => ?_)
        clear hK K
        refine call_at (i := 9) (by kernel_rfl) rfl (fun K hK => ?_)
        have y111_B0 : w.heap.size < w6.heap.size + 1 := (Nat.lt_succ_of_lt B0_6.lies)
        have y111_B1 : w.heap.size + 1 < w6.heap.size + 1 := (Nat.lt_succ_of_lt B1_6.lies)
        have y111_B2 : w1.heap.size < w6.heap.size + 1 := (Nat.lt_succ_of_lt f6.lies)
        have y111_B3 : w2.heap.size < w6.heap.size + 1 := (Nat.lt_succ_of_lt B3_6.lies)
        have y111_B4 : w6.heap.size < w6.heap.size + 1 := (Nat.lt_succ_self _)
        have y111_low : w.heap.size ≤ w6.heap.size + 1 := (Nat.le_succ_of_le K6.size)
        go_simp
        clear hHeld
        refine hK.out _ _ ((B1_6.alloc _).alloc _) (fun hHeld => ?_)
        clear hK K
        refine call_at (i := 10) (by kernel_rfl) rfl (fun K hK => ?_)
        go_simp
        clear hHeld
        refine hK.out _ _ ((B1_6.alloc _).alloc _) (fun hHeld => ?_)
        clear hK K
        refine call_at (i := 11) (by kernel_rfl) rfl (fun K hK => ?_)
        go_simp
        clear hHeld
        refine hK.out _ _ ((B1_6.alloc _).alloc _) (fun hHeld => ?_)
        clear hK K
        refine wpAnyH_done (by kernel_rfl) ?_ _
        clear hHeld
        exact cont1 _ _ _ _ _ _ _ _ _ _ _ _ _ _ _ _ _ _ _ _ _ _ _ _ _ _ _ _ _ _ _ _ w6.heap.size (w6.heap.size + 1) (bel_al (bel_al K6 _) _) ((B0_6.alloc _).alloc _) ((B1_6.alloc _).alloc _) ((f6.alloc _).alloc _) ((B3_6.alloc _).alloc _) ((Arr_at _ _ [.int .i64 a0, .int .i64 a1, .int .i64 a2] _ (by simp)).alloc _) (Arr_at _ _ [.int .i64 b0, .int .i64 b1, .int .i64 b2] _ (by simp)) y110_low y111_low y110_B0 y110_B1 y110_B2 y110_B3 y111_B0 y111_B1 y111_B2 y111_B3 (Nat.ne_of_lt y111_B4)
      · have y112_B0 : w.heap.size < w6.heap.size := B0_6.lies
        have y112_B1 : w.heap.size + 1 < w6.heap.size := B1_6.lies
        have y112_B2 : w1.heap.size < w6.heap.size := f6.lies
        have y112_B3 : w2.heap.size < w6.heap.size := B3_6.lies
        have y112_low : w.heap.size ≤ w6.heap.size := K6.size
        go_simp
        clear hHeld
        refine hK.out _ _ (B1_6.alloc _) (fun hHeld => ?_)
        clear hK K
        refine call_at (i := 8) (by kernel_rfl) rfl (fun K hK => ?_)
        have y113_B0 : w.heap.size < w6.heap.size + 1 := (Nat.lt_succ_of_lt B0_6.lies)
        have y113_B1 : w.heap.size + 1 < w6.heap.size + 1 := (Nat.lt_succ_of_lt B1_6.lies)
        have y113_B2 : w1.heap.size < w6.heap.size + 1 := (Nat.lt_succ_of_lt f6.lies)
        have y113_B3 : w2.heap.size < w6.heap.size + 1 := (Nat.lt_succ_of_lt B3_6.lies)
        have y113_B4 : w6.heap.size < w6.heap.size + 1 := (Nat.lt_succ_self _)
        have y113_low : w.heap.size ≤ w6.heap.size + 1 := (Nat.le_succ_of_le K6.size)
        go_simp
        clear hHeld
        refine hK.out _ _ ((B1_6.alloc _).alloc _) (fun hHeld => ?_)
        clear hK K
        refine call_at (i := 10) (by kernel_rfl) rfl (fun K hK => ?_)
        go_simp
        clear hHeld
        refine hK.out _ _ ((B1_6.alloc _).alloc _) (fun hHeld => ?_)
        clear hK K
        refine call_at (i := 11) (by kernel_rfl) rfl (fun K hK => ?_)
        go_simp
        clear hHeld
        refine hK.out _ _ ((B1_6.alloc _).alloc _) (fun hHeld => ?_)
        clear hK K
        refine wpAnyH_done (by kernel_rfl) ?_ _
        clear hHeld
        exact cont1 _ _ _ _ _ _ _ _ _ _ _ _ _ _ _ _ _ _ _ _ _ _ _ _ _ _ _ _ _ _ _ _ (w6.heap.size + 1) w6.heap.size (bel_al (bel_al K6 _) _) ((B0_6.alloc _).alloc _) ((B1_6.alloc _).alloc _) ((f6.alloc _).alloc _) ((B3_6.alloc _).alloc _) (Arr_at _ _ [.int .i64 a0, .int .i64 a1, .int .i64 a2] _ (by simp)) ((Arr_at _ _ [.int .i64 b0, .int .i64 b1, .int .i64 b2] _ (by simp)).alloc _) y113_low y112_low y113_B0 y113_B1 y113_B2 y113_B3 y112_B0 y112_B1 y112_B2 y112_B3 (Nat.ne_of_gt y113_B4)
    · have y114_B0 : w.heap.size < w5.heap.size := B0_5.lies
      have y114_B1 : w.heap.size + 1 < w5.heap.size := B1_5.lies
      have y114_B2 : w1.heap.size < w5.heap.size := f5.lies
      have y114_B3 : w2.heap.size < w5.heap.size := B3_5.lies
      have y114_low : w.heap.size ≤ w5.heap.size := K5.size
      go_simp
      clear hHeld
      refine hK.out _ _ (B1_5.alloc _) (fun hHeld => ?_)
      clear hK K
      refine call_at2 (i0 := 7) (i1 := 9) (by kernel_rfl) rfl rfl (fun K hK => ?_) (fun K hK => ?_)
      · go_simp
        refine (vUnit_any w1.heap.size false p.2.2.2 _ (f5.alloc _)).mono ?_
        rintro e w6 ⟨rfl, f6, k6⟩
        rw [hb] at f6 ⊢
        dsimp only at f6 ⊢
        have K6 : Below w.heap.size w w6 := k6.on (bel_al K5 _) (by omega)
        have B0_6 : Arr w.heap.size [.int .i64 q.1, .int .i64 q.2.1, .int .i64 q.2.2.1, .int .i64 q.2.2.2] w6 := (B0_5.alloc _).kept k6 (Nat.ne_of_lt y86_B0)
        have B1_6 : Arr (w.heap.size + 1) [.int .i64 p.1, .int .i64 p.2.1, .int .i64 p.2.2.1, .int .i64 p.2.2.2.1, .int .i64 p.2.2.2.2.1, .int .i64 p.2.2.2.2.2] w6 := (B1_5.alloc _).kept k6 (Nat.ne_of_lt y86_B1)
        have B3_6 : Arr w2.heap.size [.int .i64 o0, .int .i64 o1, .int .i64 o2, .int .i64 o3] w6 := (B3_5.alloc _).kept k6 (Nat.ne_of_gt y87_B2)
        have B4_6 : Arr w5.heap.size [.int .i64 0, .int .i64 0, .int .i64 0] w6 := (Arr_at _ _ [.int .i64 0, .int .i64 0, .int .i64 0] _ (by simp)).kept k6 (Nat.ne_of_gt y114_B2)
        have z6 := B4_6.lies
        clear hHeld
        refine hK.out _ _ B1_6 (fun hHeld => ?_)
        clear hK K K5 B0_5 B1_5 f5 B3_5 k6
        refine call_at (i := 9) (by kernel_rfl) rfl (fun K hK => ?_)
        have y115_B0 : w.heap.size < w6.heap.size := B0_6.lies
        have y115_B1 : w.heap.size + 1 < w6.heap.size := B1_6.lies
        have y115_B2 : w1.heap.size < w6.heap.size := f6.lies
        have y115_B3 : w2.heap.size < w6.heap.size := B3_6.lies
        have y115_B4 : w5.heap.size < w6.heap.size := B4_6.lies
        have y115_low : w.heap.size ≤ w6.heap.size := K6.size
        go_simp
        clear hHeld
        refine hK.out _ _ (B1_6.alloc _) (fun hHeld => ?_)
        clear hK K
        refine call_at (i := 10) (by kernel_rfl) rfl (fun K hK => ?_)
        have c8_B4_0 : w6.cell? ⟨w5.heap.size, 0, none⟩ = some (.int .i64 0) := B4_6.c 0 (of_decide_eq_true rfl)
        have c8_B4_1 : w6.cell? ⟨w5.heap.size, 1, none⟩ = some (.int .i64 0) := B4_6.c 1 (of_decide_eq_true rfl)
        have c8_B4_2 : w6.cell? ⟨w5.heap.size, 2, none⟩ = some (.int .i64 0) := B4_6.c 2 (of_decide_eq_true rfl)
        have g8_B4_0 := B4_6.f 0 (of_decide_eq_true rfl)
        have g8_B4_1 := B4_6.f 1 (of_decide_eq_true rfl)
        have g8_B4_2 := B4_6.f 2 (of_decide_eq_true rfl)
        have l8_B4 := B4_6.lies
        go_simp
        clear hHeld
        refine hK.out _ _ ((((B1_6.new w5.heap.size 0 (Nat.ne_of_lt y114_B1) (.int .i64 a0)).new w5.heap.size 1 (Nat.ne_of_lt y114_B1) (.int .i64 a1)).new w5.heap.size 2 (Nat.ne_of_lt y114_B1) (.int .i64 a2)).alloc _) (fun hHeld => ?_)
        clear hK K c8_B4_0 c8_B4_1 c8_B4_2 g8_B4_0 g8_B4_1 g8_B4_2 l8_B4
        refine call_at (i := 11) (by kernel_rfl) rfl (fun K hK => ?_)
        go_simp
        clear hHeld
        refine hK.out _ _ ((((B1_6.new w5.heap.size 0 (Nat.ne_of_lt y114_B1) (.int .i64 a0)).new w5.heap.size 1 (Nat.ne_of_lt y114_B1) (.int .i64 a1)).new w5.heap.size 2 (Nat.ne_of_lt y114_B1) (.int .i64 a2)).alloc _) (fun hHeld => ?_)
        clear hK K
        refine wpAnyH_done (by kernel_rfl) ?_ _
        clear hHeld
        exact cont1 _ _ _ _ _ _ _ _ _ _ _ _ _ _ _ _ _ _ _ _ _ _ _ _ _ _ _ _ _ _ _ _ w5.heap.size w6.heap.size (bel_al (bel_new (bel_new (bel_new K6 _ _ y114_low _) _ _ y114_low _) _ _ y114_low _) _) ((((B0_6.new w5.heap.size 0 (Nat.ne_of_lt y114_B0) (.int .i64 a0)).new w5.heap.size 1 (Nat.ne_of_lt y114_B0) (.int .i64 a1)).new w5.heap.size 2 (Nat.ne_of_lt y114_B0) (.int .i64 a2)).alloc _) ((((B1_6.new w5.heap.size 0 (Nat.ne_of_lt y114_B1) (.int .i64 a0)).new w5.heap.size 1 (Nat.ne_of_lt y114_B1) (.int .i64 a1)).new w5.heap.size 2 (Nat.ne_of_lt y114_B1) (.int .i64 a2)).alloc _) ((((f6.new w5.heap.size 0 (Nat.ne_of_lt y114_B2) (.int .i64 a0)).new w5.heap.size 1 (Nat.ne_of_lt y114_B2) (.int .i64 a1)).new w5.heap.size 2 (Nat.ne_of_lt y114_B2) (.int .i64 a2)).alloc _) ((((B3_6.new w5.heap.size 0 (Nat.ne_of_lt y114_B3) (.int .i64 a0)).new w5.heap.size 1 (Nat.ne_of_lt y114_B3) (.int .i64 a1)).new w5.heap.size 2 (Nat.ne_of_lt y114_B3) (.int .i64 a2)).alloc _) ((((B4_6.put 0 (of_decide_eq_true rfl) (.int .i64 a0) [.int .i64 a0, .int .i64 0, .int .i64 0] rfl).put 1 (of_decide_eq_true rfl) (.int .i64 a1) [.int .i64 a0, .int .i64 a1, .int .i64 0] rfl).put 2 (of_decide_eq_true rfl) (.int .i64 a2) [.int .i64 a0, .int .i64 a1, .int .i64 a2] rfl).alloc _) (Arr_at _ _ [.int .i64 b0, .int .i64 b1, .int .i64 b2] _ (by simp)) y114_low y115_low y114_B0 y114_B1 y114_B2 y114_B3 y115_B0 y115_B1 y115_B2 y115_B3 (Nat.ne_of_lt y115_B4)
      · have y116_B0 : w.heap.size < w5.heap.size + 1 := (Nat.lt_succ_of_lt B0_5.lies)
        have y116_B1 : w.heap.size + 1 < w5.heap.size + 1 := (Nat.lt_succ_of_lt B1_5.lies)
        have y116_B2 : w1.heap.size < w5.heap.size + 1 := (Nat.lt_succ_of_lt f5.lies)
        have y116_B3 : w2.heap.size < w5.heap.size + 1 := (Nat.lt_succ_of_lt B3_5.lies)
        have y116_B4 : w5.heap.size < w5.heap.size + 1 := (Nat.lt_succ_self _)
        have y116_low : w.heap.size ≤ w5.heap.size + 1 := (Nat.le_succ_of_le K5.size)
        go_simp
        clear hHeld
        refine hK.out _ _ ((B1_5.alloc _).alloc _) (fun hHeld => ?_)
        clear hK K
        refine call_at (i := 7) (by kernel_rfl) rfl (fun K hK => ?_)
        go_simp
        refine (vUnit_any w1.heap.size false p.2.2.2 _ ((f5.alloc _).alloc _)).mono ?_
        rintro e w6 ⟨rfl, f6, k6⟩
        rw [hb] at f6 ⊢
        dsimp only at f6 ⊢
        have K6 : Below w.heap.size w w6 := k6.on (bel_al (bel_al K5 _) _) (by omega)
        have B0_6 : Arr w.heap.size [.int .i64 q.1, .int .i64 q.2.1, .int .i64 q.2.2.1, .int .i64 q.2.2.2] w6 := ((B0_5.alloc _).alloc _).kept k6 (Nat.ne_of_lt y86_B0)
        have B1_6 : Arr (w.heap.size + 1) [.int .i64 p.1, .int .i64 p.2.1, .int .i64 p.2.2.1, .int .i64 p.2.2.2.1, .int .i64 p.2.2.2.2.1, .int .i64 p.2.2.2.2.2] w6 := ((B1_5.alloc _).alloc _).kept k6 (Nat.ne_of_lt y86_B1)
        have B3_6 : Arr w2.heap.size [.int .i64 o0, .int .i64 o1, .int .i64 o2, .int .i64 o3] w6 := ((B3_5.alloc _).alloc _).kept k6 (Nat.ne_of_gt y87_B2)
        have B4_6 : Arr w5.heap.size [.int .i64 0, .int .i64 0, .int .i64 0] w6 := ((Arr_at _ _ [.int .i64 0, .int .i64 0, .int .i64 0] _ (by simp)).alloc _).kept k6 (Nat.ne_of_gt y114_B2)
        have B5_6 : Arr (w5.heap.size + 1) [.int .i64 0, .int .i64 0, .int .i64 0] w6 := (Arr_at _ _ [.int .i64 0, .int .i64 0, .int .i64 0] _ (by simp)).kept k6 (Nat.ne_of_gt y116_B2)
        have z6 := B5_6.lies
        clear hHeld
        refine hK.out _ _ B1_6 (fun hHeld => ?_)
        clear hK K K5 B0_5 B1_5 f5 B3_5 k6
        refine call_at (i := 10) (by kernel_rfl) rfl (fun K hK => ?_)
        have c8_B4_0 : w6.cell? ⟨w5.heap.size, 0, none⟩ = some (.int .i64 0) := B4_6.c 0 (of_decide_eq_true rfl)
        have c8_B4_1 : w6.cell? ⟨w5.heap.size, 1, none⟩ = some (.int .i64 0) := B4_6.c 1 (of_decide_eq_true rfl)
        have c8_B4_2 : w6.cell? ⟨w5.heap.size, 2, none⟩ = some (.int .i64 0) := B4_6.c 2 (of_decide_eq_true rfl)
        have g8_B4_0 := B4_6.f 0 (of_decide_eq_true rfl)
        have g8_B4_1 := B4_6.f 1 (of_decide_eq_true rfl)
        have g8_B4_2 := B4_6.f 2 (of_decide_eq_true rfl)
        go_simp
        clear hHeld
        refine hK.out _ _ (((B1_6.new w5.heap.size 0 (Nat.ne_of_lt y114_B1) (.int .i64 a0)).new w5.heap.size 1 (Nat.ne_of_lt y114_B1) (.int .i64 a1)).new w5.heap.size 2 (Nat.ne_of_lt y114_B1) (.int .i64 a2)) (fun hHeld => ?_)
        clear hK K c8_B4_0 c8_B4_1 c8_B4_2 g8_B4_0 g8_B4_1 g8_B4_2
        refine call_at (i := 11) (by kernel_rfl) rfl (fun K hK => ?_)
        have c9_B5_0 : w6.cell? ⟨w5.heap.size + 1, 0, none⟩ = some (.int .i64 0) := B5_6.c 0 (of_decide_eq_true rfl)
        have c9_B5_1 : w6.cell? ⟨w5.heap.size + 1, 1, none⟩ = some (.int .i64 0) := B5_6.c 1 (of_decide_eq_true rfl)
        have c9_B5_2 : w6.cell? ⟨w5.heap.size + 1, 2, none⟩ = some (.int .i64 0) := B5_6.c 2 (of_decide_eq_true rfl)
        have g9_B5_0 := B5_6.f 0 (of_decide_eq_true rfl)
        have g9_B5_1 := B5_6.f 1 (of_decide_eq_true rfl)
        have g9_B5_2 := B5_6.f 2 (of_decide_eq_true rfl)
        go_simp
        clear hHeld
        refine hK.out _ _ ((((((B1_6.new w5.heap.size 0 (Nat.ne_of_lt y114_B1) (.int .i64 a0)).new w5.heap.size 1 (Nat.ne_of_lt y114_B1) (.int .i64 a1)).new w5.heap.size 2 (Nat.ne_of_lt y114_B1) (.int .i64 a2)).new (w5.heap.size + 1) 0 (Nat.ne_of_lt y116_B1) (.int .i64 b0)).new (w5.heap.size + 1) 1 (Nat.ne_of_lt y116_B1) (.int .i64 b1)).new (w5.heap.size + 1) 2 (Nat.ne_of_lt y116_B1) (.int .i64 b2)) (fun hHeld => ?_)
        clear hK K c9_B5_0 c9_B5_1 c9_B5_2 g9_B5_0 g9_B5_1 g9_B5_2
        refine wpAnyH_done (by kernel_rfl) ?_ _
        clear hHeld
        exact cont1 _ _ _ _ _ _ _ _ _ _ _ _ _ _ _ _ _ _ _ _ _ _ _ _ _ _ _ _ _ _ _ _ w5.heap.size (w5.heap.size + 1) (bel_new (bel_new (bel_new (bel_new (bel_new (bel_new K6 _ _ y114_low _) _ _ y114_low _) _ _ y114_low _) _ _ y116_low _) _ _ y116_low _) _ _ y116_low _) ((((((B0_6.new w5.heap.size 0 (Nat.ne_of_lt y114_B0) (.int .i64 a0)).new w5.heap.size 1 (Nat.ne_of_lt y114_B0) (.int .i64 a1)).new w5.heap.size 2 (Nat.ne_of_lt y114_B0) (.int .i64 a2)).new (w5.heap.size + 1) 0 (Nat.ne_of_lt y116_B0) (.int .i64 b0)).new (w5.heap.size + 1) 1 (Nat.ne_of_lt y116_B0) (.int .i64 b1)).new (w5.heap.size + 1) 2 (Nat.ne_of_lt y116_B0) (.int .i64 b2)) ((((((B1_6.new w5.heap.size 0 (Nat.ne_of_lt y114_B1) (.int .i64 a0)).new w5.heap.size 1 (Nat.ne_of_lt y114_B1) (.int .i64 a1)).new w5.heap.size 2 (Nat.ne_of_lt y114_B1) (.int .i64 a2)).new (w5.heap.size + 1) 0 (Nat.ne_of_lt y116_B1) (.int .i64 b0)).new (w5.heap.size + 1) 1 (Nat.ne_of_lt y116_B1) (.int .i64 b1)).new (w5.heap.size + 1) 2 (Nat.ne_of_lt y116_B1) (.int .i64 b2)) ((((((f6.new w5.heap.size 0 (Nat.ne_of_lt y114_B2) (.int .i64 a0)).new w5.heap.size 1 (Nat.ne_of_lt y114_B2) (.int .i64 a1)).new w5.heap.size 2 (Nat.ne_of_lt y114_B2) (.int .i64 a2)).new (w5.heap.size + 1) 0 (Nat.ne_of_lt y116_B2) (.int .i64 b0)).new (w5.heap.size + 1) 1 (Nat.ne_of_lt y116_B2) (.int .i64 b1)).new (w5.heap.size + 1) 2 (Nat.ne_of_lt y116_B2) (.int .i64 b2)) ((((((B3_6.new w5.heap.size 0 (Nat.ne_of_lt y114_B3) (.int .i64 a0)).new w5.heap.size 1 (Nat.ne_of_lt y114_B3) (.int .i64 a1)).new w5.heap.size 2 (Nat.ne_of_lt y114_B3) (.int .i64 a2)).new (w5.heap.size + 1) 0 (Nat.ne_of_lt y116_B3) (.int .i64 b0)).new (w5.heap.size + 1) 1 (Nat.ne_of_lt y116_B3) (.int .i64 b1)).new (w5.heap.size + 1) 2 (Nat.ne_of_lt y116_B3) (.int .i64 b2)) ((((((B4_6.put 0 (of_decide_eq_true rfl) (.int .i64 a0) [.int .i64 a0, .int .i64 0, .int .i64 0] rfl).put 1 (of_decide_eq_true rfl) (.int .i64 a1) [.int .i64 a0, .int .i64 a1, .int .i64 0] rfl).put 2 (of_decide_eq_true rfl) (.int .i64 a2) [.int .i64 a0, .int .i64 a1, .int .i64 a2] rfl).new (w5.heap.size + 1) 0 (Nat.ne_of_lt y116_B4) (.int .i64 b0)).new (w5.heap.size + 1) 1 (Nat.ne_of_lt y116_B4) (.int .i64 b1)).new (w5.heap.size + 1) 2 (Nat.ne_of_lt y116_B4) (.int .i64 b2)) ((((((B5_6.new w5.heap.size 0 (Nat.ne_of_gt y116_B4) (.int .i64 a0)).new w5.heap.size 1 (Nat.ne_of_gt y116_B4) (.int .i64 a1)).new w5.heap.size 2 (Nat.ne_of_gt y116_B4) (.int .i64 a2)).put 0 (of_decide_eq_true rfl) (.int .i64 b0) [.int .i64 b0, .int .i64 0, .int .i64 0] rfl).put 1 (of_decide_eq_true rfl) (.int .i64 b1) [.int .i64 b0, .int .i64 b1, .int .i64 0] rfl).put 2 (of_decide_eq_true rfl) (.int .i64 b2) [.int .i64 b0, .int .i64 b1, .int .i64 b2] rfl) y114_low y116_low y114_B0 y114_B1 y114_B2 y114_B3 y116_B0 y116_B1 y116_B2 y116_B3 (Nat.ne_of_lt y116_B4)
    · have y117_B0 : w.heap.size < w5.heap.size := B0_5.lies
      have y117_B1 : w.heap.size + 1 < w5.heap.size := B1_5.lies
      have y117_B2 : w1.heap.size < w5.heap.size := f5.lies
      have y117_B3 : w2.heap.size < w5.heap.size := B3_5.lies
      have y117_low : w.heap.size ≤ w5.heap.size := K5.size
      go_simp
      clear hHeld
      refine hK.out _ _ (B1_5.alloc _) (fun hHeld => ?_)
      clear hK K
      refine call_at2 (i0 := 7) (i1 := 8) (by kernel_rfl) rfl rfl (fun K hK => ?_) (fun K hK => ?_)
      · go_simp
        refine (vUnit_any w1.heap.size false p.2.2.2 _ (f5.alloc _)).mono ?_
        rintro e w6 ⟨rfl, f6, k6⟩
        rw [hb] at f6 ⊢
        dsimp only at f6 ⊢
        have K6 : Below w.heap.size w w6 := k6.on (bel_al K5 _) (by omega)
        have B0_6 : Arr w.heap.size [.int .i64 q.1, .int .i64 q.2.1, .int .i64 q.2.2.1, .int .i64 q.2.2.2] w6 := (B0_5.alloc _).kept k6 (Nat.ne_of_lt y86_B0)
        have B1_6 : Arr (w.heap.size + 1) [.int .i64 p.1, .int .i64 p.2.1, .int .i64 p.2.2.1, .int .i64 p.2.2.2.1, .int .i64 p.2.2.2.2.1, .int .i64 p.2.2.2.2.2] w6 := (B1_5.alloc _).kept k6 (Nat.ne_of_lt y86_B1)
        have B3_6 : Arr w2.heap.size [.int .i64 o0, .int .i64 o1, .int .i64 o2, .int .i64 o3] w6 := (B3_5.alloc _).kept k6 (Nat.ne_of_gt y87_B2)
        have B4_6 : Arr w5.heap.size [.int .i64 0, .int .i64 0, .int .i64 0] w6 := (Arr_at _ _ [.int .i64 0, .int .i64 0, .int .i64 0] _ (by simp)).kept k6 (Nat.ne_of_gt y117_B2)
        have z6 := B4_6.lies
        clear hHeld
        refine hK.out _ _ B1_6 (fun hHeld => ?_)
        clear hK K K5 B0_5 B1_5 f5 B3_5 k6
        refine call_at (i := 8) (by kernel_rfl) rfl (fun K hK => ?_)
        have y118_B0 : w.heap.size < w6.heap.size := B0_6.lies
        have y118_B1 : w.heap.size + 1 < w6.heap.size := B1_6.lies
        have y118_B2 : w1.heap.size < w6.heap.size := f6.lies
        have y118_B3 : w2.heap.size < w6.heap.size := B3_6.lies
        have y118_B4 : w5.heap.size < w6.heap.size := B4_6.lies
        have y118_low : w.heap.size ≤ w6.heap.size := K6.size
        go_simp
        clear hHeld
        refine hK.out _ _ (B1_6.alloc _) (fun hHeld => ?_)
        clear hK K
        refine call_at (i := 10) (by kernel_rfl) rfl (fun K hK => ?_)
        go_simp
        clear hHeld
        refine hK.out _ _ (B1_6.alloc _) (fun hHeld => ?_)
        clear hK K
        refine call_at (i := 11) (by kernel_rfl) rfl (fun K hK => ?_)
        have c9_B4_0 : w6.cell? ⟨w5.heap.size, 0, none⟩ = some (.int .i64 0) := B4_6.c 0 (of_decide_eq_true rfl)
        have c9_B4_1 : w6.cell? ⟨w5.heap.size, 1, none⟩ = some (.int .i64 0) := B4_6.c 1 (of_decide_eq_true rfl)
        have c9_B4_2 : w6.cell? ⟨w5.heap.size, 2, none⟩ = some (.int .i64 0) := B4_6.c 2 (of_decide_eq_true rfl)
        have g9_B4_0 := B4_6.f 0 (of_decide_eq_true rfl)
        have g9_B4_1 := B4_6.f 1 (of_decide_eq_true rfl)
        have g9_B4_2 := B4_6.f 2 (of_decide_eq_true rfl)
        have l9_B4 := B4_6.lies
        go_simp
        clear hHeld
        refine hK.out _ _ ((((B1_6.new w5.heap.size 0 (Nat.ne_of_lt y117_B1) (.int .i64 b0)).new w5.heap.size 1 (Nat.ne_of_lt y117_B1) (.int .i64 b1)).new w5.heap.size 2 (Nat.ne_of_lt y117_B1) (.int .i64 b2)).alloc _) (fun hHeld => ?_)
        clear hK K c9_B4_0 c9_B4_1 c9_B4_2 g9_B4_0 g9_B4_1 g9_B4_2 l9_B4
        refine wpAnyH_done (by kernel_rfl) ?_ _
        clear hHeld
        exact cont1 _ _ _ _ _ _ _ _ _ _ _ _ _ _ _ _ _ _ _ _ _ _ _ _ _ _ _ _ _ _ _ _ w6.heap.size w5.heap.size (bel_al (bel_new (bel_new (bel_new K6 _ _ y117_low _) _ _ y117_low _) _ _ y117_low _) _) ((((B0_6.new w5.heap.size 0 (Nat.ne_of_lt y117_B0) (.int .i64 b0)).new w5.heap.size 1 (Nat.ne_of_lt y117_B0) (.int .i64 b1)).new w5.heap.size 2 (Nat.ne_of_lt y117_B0) (.int .i64 b2)).alloc _) ((((B1_6.new w5.heap.size 0 (Nat.ne_of_lt y117_B1) (.int .i64 b0)).new w5.heap.size 1 (Nat.ne_of_lt y117_B1) (.int .i64 b1)).new w5.heap.size 2 (Nat.ne_of_lt y117_B1) (.int .i64 b2)).alloc _) ((((f6.new w5.heap.size 0 (Nat.ne_of_lt y117_B2) (.int .i64 b0)).new w5.heap.size 1 (Nat.ne_of_lt y117_B2) (.int .i64 b1)).new w5.heap.size 2 (Nat.ne_of_lt y117_B2) (.int .i64 b2)).alloc _) ((((B3_6.new w5.heap.size 0 (Nat.ne_of_lt y117_B3) (.int .i64 b0)).new w5.heap.size 1 (Nat.ne_of_lt y117_B3) (.int .i64 b1)).new w5.heap.size 2 (Nat.ne_of_lt y117_B3) (.int .i64 b2)).alloc _) (Arr_at _ _ [.int .i64 a0, .int .i64 a1, .int .i64 a2] _ (by simp)) ((((B4_6.put 0 (of_decide_eq_true rfl) (.int .i64 b0) [.int .i64 b0, .int .i64 0, .int .i64 0] rfl).put 1 (of_decide_eq_true rfl) (.int .i64 b1) [.int .i64 b0, .int .i64 b1, .int .i64 0] rfl).put 2 (of_decide_eq_true rfl) (.int .i64 b2) [.int .i64 b0, .int .i64 b1, .int .i64 b2] rfl).alloc _) y118_low y117_low y118_B0 y118_B1 y118_B2 y118_B3 y117_B0 y117_B1 y117_B2 y117_B3 (Nat.ne_of_gt y118_B4)
      · have y119_B0 : w.heap.size < w5.heap.size + 1 := (Nat.lt_succ_of_lt B0_5.lies)
        have y119_B1 : w.heap.size + 1 < w5.heap.size + 1 := (Nat.lt_succ_of_lt B1_5.lies)
        have y119_B2 : w1.heap.size < w5.heap.size + 1 := (Nat.lt_succ_of_lt f5.lies)
        have y119_B3 : w2.heap.size < w5.heap.size + 1 := (Nat.lt_succ_of_lt B3_5.lies)
        have y119_B4 : w5.heap.size < w5.heap.size + 1 := (Nat.lt_succ_self _)
        have y119_low : w.heap.size ≤ w5.heap.size + 1 := (Nat.le_succ_of_le K5.size)
        go_simp
        clear hHeld
        refine hK.out _ _ ((B1_5.alloc _).alloc _) (fun hHeld => ?_)
        clear hK K
        refine call_at (i := 7) (by kernel_rfl) rfl (fun K hK => ?_)
        go_simp
        refine (vUnit_any w1.heap.size false p.2.2.2 _ ((f5.alloc _).alloc _)).mono ?_
        rintro e w6 ⟨rfl, f6, k6⟩
        rw [hb] at f6 ⊢
        dsimp only at f6 ⊢
        have K6 : Below w.heap.size w w6 := k6.on (bel_al (bel_al K5 _) _) (by omega)
        have B0_6 : Arr w.heap.size [.int .i64 q.1, .int .i64 q.2.1, .int .i64 q.2.2.1, .int .i64 q.2.2.2] w6 := ((B0_5.alloc _).alloc _).kept k6 (Nat.ne_of_lt y86_B0)
        have B1_6 : Arr (w.heap.size + 1) [.int .i64 p.1, .int .i64 p.2.1, .int .i64 p.2.2.1, .int .i64 p.2.2.2.1, .int .i64 p.2.2.2.2.1, .int .i64 p.2.2.2.2.2] w6 := ((B1_5.alloc _).alloc _).kept k6 (Nat.ne_of_lt y86_B1)
        have B3_6 : Arr w2.heap.size [.int .i64 o0, .int .i64 o1, .int .i64 o2, .int .i64 o3] w6 := ((B3_5.alloc _).alloc _).kept k6 (Nat.ne_of_gt y87_B2)
        have B4_6 : Arr w5.heap.size [.int .i64 0, .int .i64 0, .int .i64 0] w6 := ((Arr_at _ _ [.int .i64 0, .int .i64 0, .int .i64 0] _ (by simp)).alloc _).kept k6 (Nat.ne_of_gt y117_B2)
        have B5_6 : Arr (w5.heap.size + 1) [.int .i64 0, .int .i64 0, .int .i64 0] w6 := (Arr_at _ _ [.int .i64 0, .int .i64 0, .int .i64 0] _ (by simp)).kept k6 (Nat.ne_of_gt y119_B2)
        have z6 := B5_6.lies
        clear hHeld
        refine hK.out _ _ B1_6 (fun hHeld => ?_)
        clear hK K K5 B0_5 B1_5 f5 B3_5 k6
        refine call_at (i := 10) (by kernel_rfl) rfl (fun K hK => ?_)
        have c8_B5_0 : w6.cell? ⟨w5.heap.size + 1, 0, none⟩ = some (.int .i64 0) := B5_6.c 0 (of_decide_eq_true rfl)
        have c8_B5_1 : w6.cell? ⟨w5.heap.size + 1, 1, none⟩ = some (.int .i64 0) := B5_6.c 1 (of_decide_eq_true rfl)
        have c8_B5_2 : w6.cell? ⟨w5.heap.size + 1, 2, none⟩ = some (.int .i64 0) := B5_6.c 2 (of_decide_eq_true rfl)
        have g8_B5_0 := B5_6.f 0 (of_decide_eq_true rfl)
        have g8_B5_1 := B5_6.f 1 (of_decide_eq_true rfl)
        have g8_B5_2 := B5_6.f 2 (of_decide_eq_true rfl)
        go_simp
        clear hHeld
        refine hK.out _ _ (((B1_6.new (w5.heap.size + 1) 0 (Nat.ne_of_lt y119_B1) (.int .i64 a0)).new (w5.heap.size + 1) 1 (Nat.ne_of_lt y119_B1) (.int .i64 a1)).new (w5.heap.size + 1) 2 (Nat.ne_of_lt y119_B1) (.int .i64 a2)) (fun hHeld => ?_)
        clear hK K c8_B5_0 c8_B5_1 c8_B5_2 g8_B5_0 g8_B5_1 g8_B5_2
        refine call_at (i := 11) (by kernel_rfl) rfl (fun K hK => ?_)
        have c9_B4_0 : w6.cell? ⟨w5.heap.size, 0, none⟩ = some (.int .i64 0) := B4_6.c 0 (of_decide_eq_true rfl)
        have c9_B4_1 : w6.cell? ⟨w5.heap.size, 1, none⟩ = some (.int .i64 0) := B4_6.c 1 (of_decide_eq_true rfl)
        have c9_B4_2 : w6.cell? ⟨w5.heap.size, 2, none⟩ = some (.int .i64 0) := B4_6.c 2 (of_decide_eq_true rfl)
        have g9_B4_0 := B4_6.f 0 (of_decide_eq_true rfl)
        have g9_B4_1 := B4_6.f 1 (of_decide_eq_true rfl)
        have g9_B4_2 := B4_6.f 2 (of_decide_eq_true rfl)
        go_simp
        clear hHeld
        refine hK.out _ _ ((((((B1_6.new (w5.heap.size + 1) 0 (Nat.ne_of_lt y119_B1) (.int .i64 a0)).new (w5.heap.size + 1) 1 (Nat.ne_of_lt y119_B1) (.int .i64 a1)).new (w5.heap.size + 1) 2 (Nat.ne_of_lt y119_B1) (.int .i64 a2)).new w5.heap.size 0 (Nat.ne_of_lt y117_B1) (.int .i64 b0)).new w5.heap.size 1 (Nat.ne_of_lt y117_B1) (.int .i64 b1)).new w5.heap.size 2 (Nat.ne_of_lt y117_B1) (.int .i64 b2)) (fun hHeld => ?_)
        clear hK K c9_B4_0 c9_B4_1 c9_B4_2 g9_B4_0 g9_B4_1 g9_B4_2
        refine wpAnyH_done (by kernel_rfl) ?_ _
        clear hHeld
        exact cont1 _ _ _ _ _ _ _ _ _ _ _ _ _ _ _ _ _ _ _ _ _ _ _ _ _ _ _ _ _ _ _ _ (w5.heap.size + 1) w5.heap.size (bel_new (bel_new (bel_new (bel_new (bel_new (bel_new K6 _ _ y119_low _) _ _ y119_low _) _ _ y119_low _) _ _ y117_low _) _ _ y117_low _) _ _ y117_low _) ((((((B0_6.new (w5.heap.size + 1) 0 (Nat.ne_of_lt y119_B0) (.int .i64 a0)).new (w5.heap.size + 1) 1 (Nat.ne_of_lt y119_B0) (.int .i64 a1)).new (w5.heap.size + 1) 2 (Nat.ne_of_lt y119_B0) (.int .i64 a2)).new w5.heap.size 0 (Nat.ne_of_lt y117_B0) (.int .i64 b0)).new w5.heap.size 1 (Nat.ne_of_lt y117_B0) (.int .i64 b1)).new w5.heap.size 2 (Nat.ne_of_lt y117_B0) (.int .i64 b2)) ((((((B1_6.new (w5.heap.size + 1) 0 (Nat.ne_of_lt y119_B1) (.int .i64 a0)).new (w5.heap.size + 1) 1 (Nat.ne_of_lt y119_B1) (.int .i64 a1)).new (w5.heap.size + 1) 2 (Nat.ne_of_lt y119_B1) (.int .i64 a2)).new w5.heap.size 0 (Nat.ne_of_lt y117_B1) (.int .i64 b0)).new w5.heap.size 1 (Nat.ne_of_lt y117_B1) (.int .i64 b1)).new w5.heap.size 2 (Nat.ne_of_lt y117_B1) (.int .i64 b2)) ((((((f6.new (w5.heap.size + 1) 0 (Nat.ne_of_lt y119_B2) (.int .i64 a0)).new (w5.heap.size + 1) 1 (Nat.ne_of_lt y119_B2) (.int .i64 a1)).new (w5.heap.size + 1) 2 (Nat.ne_of_lt y119_B2) (.int .i64 a2)).new w5.heap.size 0 (Nat.ne_of_lt y117_B2) (.int .i64 b0)).new w5.heap.size 1 (Nat.ne_of_lt y117_B2) (.int .i64 b1)).new w5.heap.size 2 (Nat.ne_of_lt y117_B2) (.int .i64 b2)) ((((((B3_6.new (w5.heap.size + 1) 0 (Nat.ne_of_lt y119_B3) (.int .i64 a0)).new (w5.heap.size + 1) 1 (Nat.ne_of_lt y119_B3) (.int .i64 a1)).new (w5.heap.size + 1) 2 (Nat.ne_of_lt y119_B3) (.int .i64 a2)).new w5.heap.size 0 (Nat.ne_of_lt y117_B3) (.int .i64 b0)).new w5.heap.size 1 (Nat.ne_of_lt y117_B3) (.int .i64 b1)).new w5.heap.size 2 (Nat.ne_of_lt y117_B3) (.int .i64 b2)) ((((((B5_6.put 0 (of_decide_eq_true rfl) (.int .i64 a0) [.int .i64 a0, .int .i64 0, .int .i64 0] rfl).put 1 (of_decide_eq_true rfl) (.int .i64 a1) [.int .i64 a0, .int .i64 a1, .int .i64 0] rfl).put 2 (of_decide_eq_true rfl) (.int .i64 a2) [.int .i64 a0, .int .i64 a1, .int .i64 a2] rfl).new w5.heap.size 0 (Nat.ne_of_gt y119_B4) (.int .i64 b0)).new w5.heap.size 1 (Nat.ne_of_gt y119_B4) (.int .i64 b1)).new w5.heap.size 2 (Nat.ne_of_gt y119_B4) (.int .i64 b2)) ((((((B4_6.new (w5.heap.size + 1) 0 (Nat.ne_of_lt y119_B4) (.int .i64 a0)).new (w5.heap.size + 1) 1 (Nat.ne_of_lt y119_B4) (.int .i64 a1)).new (w5.heap.size + 1) 2 (Nat.ne_of_lt y119_B4) (.int .i64 a2)).put 0 (of_decide_eq_true rfl) (.int .i64 b0) [.int .i64 b0, .int .i64 0, .int .i64 0] rfl).put 1 (of_decide_eq_true rfl) (.int .i64 b1) [.int .i64 b0, .int .i64 b1, .int .i64 0] rfl).put 2 (of_decide_eq_true rfl) (.int .i64 b2) [.int .i64 b0, .int .i64 b1, .int .i64 b2] rfl) y119_low y117_low y119_B0 y119_B1 y119_B2 y119_B3 y117_B0 y117_B1 y117_B2 y117_B3 (Nat.ne_of_gt y119_B4)
  · have y120_B0 : w.heap.size < w4.heap.size := B0_4.lies
    have y120_B1 : w.heap.size + 1 < w4.heap.size := B1_4.lies
    have y120_B2 : w1.heap.size < w4.heap.size := B2_4.lies
    have y120_B3 : w2.heap.size < w4.heap.size := B3_4.lies
    have y120_low : w.heap.size ≤ w4.heap.size := K4.size
    go_simp
    clear hHeld
    refine hK.out _ _ (B1_4.alloc _).drew (fun hHeld => ?_)
    clear hK K
    refine call_at2 (i0 := 3) (i1 := 9) (by kernel_rfl) rfl rfl (fun K hK => ?_) (fun K hK => ?_)
    · go_simp
      refine (vUnit_any w1.heap.size false (p.1, p.2.1, p.2.2.1) _ (B2_4.alloc _).drew).mono ?_
      rintro e w5 ⟨rfl, f5, k5⟩
      rw [ha] at f5 ⊢
      dsimp only at f5 ⊢
      have K5 : Below w.heap.size w w5 := k5.on (Below.drew (bel_al K4 _)) (by omega)
      have B0_5 : Arr w.heap.size [.int .i64 q.1, .int .i64 q.2.1, .int .i64 q.2.2.1, .int .i64 q.2.2.2] w5 := (B0_4.alloc _).drew.kept k5 (Nat.ne_of_lt y86_B0)
      have B1_5 : Arr (w.heap.size + 1) [.int .i64 p.1, .int .i64 p.2.1, .int .i64 p.2.2.1, .int .i64 p.2.2.2.1, .int .i64 p.2.2.2.2.1, .int .i64 p.2.2.2.2.2] w5 := (B1_4.alloc _).drew.kept k5 (Nat.ne_of_lt y86_B1)
      have B3_5 : Arr w2.heap.size [.int .i64 o0, .int .i64 o1, .int .i64 o2, .int .i64 o3] w5 := (B3_4.alloc _).drew.kept k5 (Nat.ne_of_gt y87_B2)
      have B4_5 : Arr w4.heap.size [.int .i64 0, .int .i64 0, .int .i64 0] w5 := (Arr_at _ _ [.int .i64 0, .int .i64 0, .int .i64 0] _ (by simp)).drew.kept k5 (Nat.ne_of_gt y120_B2)
      have z5 := B4_5.lies
      clear hHeld
      refine hK.out _ _ B1_5 (fun hHeld => ?_)
      clear hK K K4 B0_4 B1_4 B2_4 B3_4 k5
      refine call_at2 (i0 := 7) (i1 := 9) (by kernel_rfl) rfl rfl (fun K hK => ?_) (fun K hK => ?_)
      · go_simp
        refine (vUnit_any w1.heap.size false p.2.2.2 _ f5).mono ?_
        rintro e w6 ⟨rfl, f6, k6⟩
        rw [hb] at f6 ⊢
        dsimp only at f6 ⊢
        have K6 : Below w.heap.size w w6 := k6.on K5 (by omega)
        have B0_6 : Arr w.heap.size [.int .i64 q.1, .int .i64 q.2.1, .int .i64 q.2.2.1, .int .i64 q.2.2.2] w6 := B0_5.kept k6 (Nat.ne_of_lt y86_B0)
        have B1_6 : Arr (w.heap.size + 1) [.int .i64 p.1, .int .i64 p.2.1, .int .i64 p.2.2.1, .int .i64 p.2.2.2.1, .int .i64 p.2.2.2.2.1, .int .i64 p.2.2.2.2.2] w6 := B1_5.kept k6 (Nat.ne_of_lt y86_B1)
        have B3_6 : Arr w2.heap.size [.int .i64 o0, .int .i64 o1, .int .i64 o2, .int .i64 o3] w6 := B3_5.kept k6 (Nat.ne_of_gt y87_B2)
        have B4_6 : Arr w4.heap.size [.int .i64 0, .int .i64 0, .int .i64 0] w6 := B4_5.kept k6 (Nat.ne_of_gt y120_B2)
        have z6 := B4_6.lies
        clear hHeld
        refine hK.out _ _ B1_6 (fun hHeld => ?_)
        clear hK K K5 B0_5 B1_5 f5 B3_5 B4_5 k6
        refine call_at (i := 9) (by kernel_rfl) rfl (fun K hK => ?_)
        have y121_B0 : w.heap.size < w6.heap.size := B0_6.lies
        have y121_B1 : w.heap.size + 1 < w6.heap.size := B1_6.lies
        have y121_B2 : w1.heap.size < w6.heap.size := f6.lies
        have y121_B3 : w2.heap.size < w6.heap.size := B3_6.lies
        have y121_B4 : w4.heap.size < w6.heap.size := B4_6.lies
        have y121_low : w.heap.size ≤ w6.heap.size := K6.size
        go_simp
        clear hHeld
        refine hK.out _ _ (B1_6.alloc _) (fun hHeld => ?_)
        clear hK K
        refine call_at (i := 10) (by kernel_rfl) rfl (fun K hK => ?_)
        have c8_B4_0 : w6.cell? ⟨w4.heap.size, 0, none⟩ = some (.int .i64 0) := B4_6.c 0 (of_decide_eq_true rfl)
        have c8_B4_1 : w6.cell? ⟨w4.heap.size, 1, none⟩ = some (.int .i64 0) := B4_6.c 1 (of_decide_eq_true rfl)
        have c8_B4_2 : w6.cell? ⟨w4.heap.size, 2, none⟩ = some (.int .i64 0) := B4_6.c 2 (of_decide_eq_true rfl)
        have g8_B4_0 := B4_6.f 0 (of_decide_eq_true rfl)
        have g8_B4_1 := B4_6.f 1 (of_decide_eq_true rfl)
        have g8_B4_2 := B4_6.f 2 (of_decide_eq_true rfl)
        have l8_B4 := B4_6.lies
        go_simp
        clear hHeld
        refine hK.out _ _ ((((B1_6.new w4.heap.size 0 (Nat.ne_of_lt y120_B1) (.int .i64 a0)).new w4.heap.size 1 (Nat.ne_of_lt y120_B1) (.int .i64 a1)).new w4.heap.size 2 (Nat.ne_of_lt y120_B1) (.int .i64 a2)).alloc _) (fun hHeld => ?_)
        clear hK K c8_B4_0 c8_B4_1 c8_B4_2 g8_B4_0 g8_B4_1 g8_B4_2 l8_B4
        refine call_at (i := 11) (by kernel_rfl) rfl (fun K hK => ?_)
        go_simp
        clear hHeld
        refine hK.out _ _ ((((B1_6.new w4.heap.size 0 (Nat.ne_of_lt y120_B1) (.int .i64 a0)).new w4.heap.size 1 (Nat.ne_of_lt y120_B1) (.int .i64 a1)).new w4.heap.size 2 (Nat.ne_of_lt y120_B1) (.int .i64 a2)).alloc _) (fun hHeld => ?_)
        clear hK K
        refine wpAnyH_done (by kernel_rfl) ?_ _
        clear hHeld
        exact cont1 _ _ _ _ _ _ _ _ _ _ _ _ _ _ _ _ _ _ _ _ _ _ _ _ _ _ _ _ _ _ _ _ w4.heap.size w6.heap.size (bel_al (bel_new (bel_new (bel_new K6 _ _ y120_low _) _ _ y120_low _) _ _ y120_low _) _) ((((B0_6.new w4.heap.size 0 (Nat.ne_of_lt y120_B0) (.int .i64 a0)).new w4.heap.size 1 (Nat.ne_of_lt y120_B0) (.int .i64 a1)).new w4.heap.size 2 (Nat.ne_of_lt y120_B0) (.int .i64 a2)).alloc _) ((((B1_6.new w4.heap.size 0 (Nat.ne_of_lt y120_B1) (.int .i64 a0)).new w4.heap.size 1 (Nat.ne_of_lt y120_B1) (.int .i64 a1)).new w4.heap.size 2 (Nat.ne_of_lt y120_B1) (.int .i64 a2)).alloc _) ((((f6.new w4.heap.size 0 (Nat.ne_of_lt y120_B2) (.int .i64 a0)).new w4.heap.size 1 (Nat.ne_of_lt y120_B2) (.int .i64 a1)).new w4.heap.size 2 (Nat.ne_of_lt y120_B2) (.int .i64 a2)).alloc _) ((((B3_6.new w4.heap.size 0 (Nat.ne_of_lt y120_B3) (.int .i64 a0)).new w4.heap.size 1 (Nat.ne_of_lt y120_B3) (.int .i64 a1)).new w4.heap.size 2 (Nat.ne_of_lt y120_B3) (.int .i64 a2)).alloc _) ((((B4_6.put 0 (of_decide_eq_true rfl) (.int .i64 a0) [.int .i64 a0, .int .i64 0, .int .i64 0] rfl).put 1 (of_decide_eq_true rfl) (.int .i64 a1) [.int .i64 a0, .int .i64 a1, .int .i64 0] rfl).put 2 (of_decide_eq_true rfl) (.int .i64 a2) [.int .i64 a0, .int .i64 a1, .int .i64 a2] rfl).alloc _) (Arr_at _ _ [.int .i64 b0, .int .i64 b1, .int .i64 b2] _ (by simp)) y120_low y121_low y120_B0 y120_B1 y120_B2 y120_B3 y121_B0 y121_B1 y121_B2 y121_B3 (Nat.ne_of_lt y121_B4)
      · have y122_B0 : w.heap.size < w5.heap.size := B0_5.lies
        have y122_B1 : w.heap.size + 1 < w5.heap.size := B1_5.lies
        have y122_B2 : w1.heap.size < w5.heap.size := f5.lies
        have y122_B3 : w2.heap.size < w5.heap.size := B3_5.lies
        have y122_B4 : w4.heap.size < w5.heap.size := B4_5.lies
        have y122_low : w.heap.size ≤ w5.heap.size := K5.size
        go_simp
        clear hHeld
        refine hK.out _ _ (B1_5.alloc _) (fun hHeld => ?_)
        clear hK K
        refine call_at (i := 7) (by kernel_rfl) rfl (fun K hK => ?_)
        go_simp
        refine (vUnit_any w1.heap.size false p.2.2.2 _ (f5.alloc _)).mono ?_
        rintro e w6 ⟨rfl, f6, k6⟩
        rw [hb] at f6 ⊢
        dsimp only at f6 ⊢
        have K6 : Below w.heap.size w w6 := k6.on (bel_al K5 _) (by omega)
        have B0_6 : Arr w.heap.size [.int .i64 q.1, .int .i64 q.2.1, .int .i64 q.2.2.1, .int .i64 q.2.2.2] w6 := (B0_5.alloc _).kept k6 (Nat.ne_of_lt y86_B0)
        have B1_6 : Arr (w.heap.size + 1) [.int .i64 p.1, .int .i64 p.2.1, .int .i64 p.2.2.1, .int .i64 p.2.2.2.1, .int .i64 p.2.2.2.2.1, .int .i64 p.2.2.2.2.2] w6 := (B1_5.alloc _).kept k6 (Nat.ne_of_lt y86_B1)
        have B3_6 : Arr w2.heap.size [.int .i64 o0, .int .i64 o1, .int .i64 o2, .int .i64 o3] w6 := (B3_5.alloc _).kept k6 (Nat.ne_of_gt y87_B2)
        have B4_6 : Arr w4.heap.size [.int .i64 0, .int .i64 0, .int .i64 0] w6 := (B4_5.alloc _).kept k6 (Nat.ne_of_gt y120_B2)
        have B5_6 : Arr w5.heap.size [.int .i64 0, .int .i64 0, .int .i64 0] w6 := (Arr_at _ _ [.int .i64 0, .int .i64 0, .int .i64 0] _ (by simp)).kept k6 (Nat.ne_of_gt y122_B2)
        have z6 := B5_6.lies
        clear hHeld
        refine hK.out _ _ B1_6 (fun hHeld => ?_)
        clear hK K K5 B0_5 B1_5 f5 B3_5 B4_5 k6
        refine call_at (i := 10) (by kernel_rfl) rfl (fun K hK => ?_)
        have c8_B4_0 : w6.cell? ⟨w4.heap.size, 0, none⟩ = some (.int .i64 0) := B4_6.c 0 (of_decide_eq_true rfl)
        have c8_B4_1 : w6.cell? ⟨w4.heap.size, 1, none⟩ = some (.int .i64 0) := B4_6.c 1 (of_decide_eq_true rfl)
        have c8_B4_2 : w6.cell? ⟨w4.heap.size, 2, none⟩ = some (.int .i64 0) := B4_6.c 2 (of_decide_eq_true rfl)
        have g8_B4_0 := B4_6.f 0 (of_decide_eq_true rfl)
        have g8_B4_1 := B4_6.f 1 (of_decide_eq_true rfl)
        have g8_B4_2 := B4_6.f 2 (of_decide_eq_true rfl)
        go_simp
        clear hHeld
        refine hK.out _ _ (((B1_6.new w4.heap.size 0 (Nat.ne_of_lt y120_B1) (.int .i64 a0)).new w4.heap.size 1 (Nat.ne_of_lt y120_B1) (.int .i64 a1)).new w4.heap.size 2 (Nat.ne_of_lt y120_B1) (.int .i64 a2)) (fun hHeld => ?_)
        clear hK K c8_B4_0 c8_B4_1 c8_B4_2 g8_B4_0 g8_B4_1 g8_B4_2
        refine call_at (i := 11) (by kernel_rfl) rfl (fun K hK => ?_)
        have c9_B5_0 : w6.cell? ⟨w5.heap.size, 0, none⟩ = some (.int .i64 0) := B5_6.c 0 (of_decide_eq_true rfl)
        have c9_B5_1 : w6.cell? ⟨w5.heap.size, 1, none⟩ = some (.int .i64 0) := B5_6.c 1 (of_decide_eq_true rfl)
        have c9_B5_2 : w6.cell? ⟨w5.heap.size, 2, none⟩ = some (.int .i64 0) := B5_6.c 2 (of_decide_eq_true rfl)
        have g9_B5_0 := B5_6.f 0 (of_decide_eq_true rfl)
        have g9_B5_1 := B5_6.f 1 (of_decide_eq_true rfl)
        have g9_B5_2 := B5_6.f 2 (of_decide_eq_true rfl)
        go_simp
        clear hHeld
        refine hK.out _ _ ((((((B1_6.new w4.heap.size 0 (Nat.ne_of_lt y120_B1) (.int .i64 a0)).new w4.heap.size 1 (Nat.ne_of_lt y120_B1) (.int .i64 a1)).new w4.heap.size 2 (Nat.ne_of_lt y120_B1) (.int .i64 a2)).new w5.heap.size 0 (Nat.ne_of_lt y122_B1) (.int .i64 b0)).new w5.heap.size 1 (Nat.ne_of_lt y122_B1) (.int .i64 b1)).new w5.heap.size 2 (Nat.ne_of_lt y122_B1) (.int .i64 b2)) (fun hHeld => ?_)
        clear hK K c9_B5_0 c9_B5_1 c9_B5_2 g9_B5_0 g9_B5_1 g9_B5_2
        refine wpAnyH_done (by kernel_rfl) ?_ _
        clear hHeld
        exact cont1 _ _ _ _ _ _ _ _ _ _ _ _ _ _ _ _ _ _ _ _ _ _ _ _ _ _ _ _ _ _ _ _ w4.heap.size w5.heap.size (bel_new (bel_new (bel_new (bel_new (bel_new (bel_new K6 _ _ y120_low _) _ _ y120_low _) _ _ y120_low _) _ _ y122_low _) _ _ y122_low _) _ _ y122_low _) ((((((B0_6.new w4.heap.size 0 (Nat.ne_of_lt y120_B0) (.int .i64 a0)).new w4.heap.size 1 (Nat.ne_of_lt y120_B0) (.int .i64 a1)).new w4.heap.size 2 (Nat.ne_of_lt y120_B0) (.int .i64 a2)).new w5.heap.size 0 (Nat.ne_of_lt y122_B0) (.int .i64 b0)).new w5.heap.size 1 (Nat.ne_of_lt y122_B0) (.int .i64 b1)).new w5.heap.size 2 (Nat.ne_of_lt y122_B0) (.int .i64 b2)) ((((((B1_6.new w4.heap.size 0 (Nat.ne_of_lt y120_B1) (.int .i64 a0)).new w4.heap.size 1 (Nat.ne_of_lt y120_B1) (.int .i64 a1)).new w4.heap.size 2 (Nat.ne_of_lt y120_B1) (.int .i64 a2)).new w5.heap.size 0 (Nat.ne_of_lt y122_B1) (.int .i64 b0)).new w5.heap.size 1 (Nat.ne_of_lt y122_B1) (.int .i64 b1)).new w5.heap.size 2 (Nat.ne_of_lt y122_B1) (.int .i64 b2)) ((((((f6.new w4.heap.size 0 (Nat.ne_of_lt y120_B2) (.int .i64 a0)).new w4.heap.size 1 (Nat.ne_of_lt y120_B2) (.int .i64 a1)).new w4.heap.size 2 (Nat.ne_of_lt y120_B2) (.int .i64 a2)).new w5.heap.size 0 (Nat.ne_of_lt y122_B2) (.int .i64 b0)).new w5.heap.size 1 (Nat.ne_of_lt y122_B2) (.int .i64 b1)).new w5.heap.size 2 (Nat.ne_of_lt y122_B2) (.int .i64 b2)) ((((((B3_6.new w4.heap.size 0 (Nat.ne_of_lt y120_B3) (.int .i64 a0)).new w4.heap.size 1 (Nat.ne_of_lt y120_B3) (.int .i64 a1)).new w4.heap.size 2 (Nat.ne_of_lt y120_B3) (.int .i64 a2)).new w5.heap.size 0 (Nat.ne_of_lt y122_B3) (.int .i64 b0)).new w5.heap.size 1 (Nat.ne_of_lt y122_B3) (.int .i64 b1)).new w5.heap.size 2 (Nat.ne_of_lt y122_B3) (.int .i64 b2)) ((((((B4_6.put 0 (of_decide_eq_true rfl) (.int .i64 a0) [.int .i64 a0, .int .i64 0, .int .i64 0] rfl).put 1 (of_decide_eq_true rfl) (.int .i64 a1) [.int .i64 a0, .int .i64 a1, .int .i64 0] rfl).put 2 (of_decide_eq_true rfl) (.int .i64 a2) [.int .i64 a0, .int .i64 a1, .int .i64 a2] rfl).new w5.heap.size 0 (Nat.ne_of_lt y122_B4) (.int .i64 b0)).new w5.heap.size 1 (Nat.ne_of_lt y122_B4) (.int .i64 b1)).new w5.heap.size 2 (Nat.ne_of_lt y122_B4) (.int .i64 b2)) ((((((B5_6.new w4.heap.size 0 (Nat.ne_of_gt y122_B4) (.int .i64 a0)).new w4.heap.size 1 (Nat.ne_of_gt y122_B4) (.int .i64 a1)).new w4.heap.size 2 (Nat.ne_of_gt y122_B4) (.int .i64 a2)).put 0 (of_decide_eq_true rfl) (.int .i64 b0) [.int .i64 b0, .int .i64 0, .int .i64 0] rfl).put 1 (of_decide_eq_true rfl) (.int .i64 b1) [.int .i64 b0, .int .i64 b1, .int .i64 0] rfl).put 2 (of_decide_eq_true rfl) (.int .i64 b2) [.int .i64 b0, .int .i64 b1, .int .i64 b2] rfl) y120_low y122_low y120_B0 y120_B1 y120_B2 y120_B3 y122_B0 y122_B1 y122_B2 y122_B3 (Nat.ne_of_lt y122_B4)
    · have y123_B0 : w.heap.size < w4.heap.size + 1 := (Nat.lt_succ_of_lt B0_4.lies)
      have y123_B1 : w.heap.size + 1 < w4.heap.size + 1 := (Nat.lt_succ_of_lt B1_4.lies)
      have y123_B2 : w1.heap.size < w4.heap.size + 1 := (Nat.lt_succ_of_lt B2_4.lies)
      have y123_B3 : w2.heap.size < w4.heap.size + 1 := (Nat.lt_succ_of_lt B3_4.lies)
      have y123_B4 : w4.heap.size < w4.heap.size + 1 := (Nat.lt_succ_self _)
      have y123_low : w.heap.size ≤ w4.heap.size + 1 := (Nat.le_succ_of_le K4.size)
      go_simp
      clear hHeld
      refine hK.out _ _ ((B1_4.alloc _).alloc _).drew (fun hHeld => ?_)
      clear hK K
      refine call_at (i := 3) (by kernel_rfl) rfl (fun K hK => ?_)
      go_simp
      refine (vUnit_any w1.heap.size false (p.1, p.2.1, p.2.2.1) _ ((B2_4.alloc _).alloc _).drew).mono ?_
      rintro e w5 ⟨rfl, f5, k5⟩
      rw [ha] at f5 ⊢
      dsimp only at f5 ⊢
      have K5 : Below w.heap.size w w5 := k5.on (Below.drew (bel_al (bel_al K4 _) _)) (by omega)
      have B0_5 : Arr w.heap.size [.int .i64 q.1, .int .i64 q.2.1, .int .i64 q.2.2.1, .int .i64 q.2.2.2] w5 := ((B0_4.alloc _).alloc _).drew.kept k5 (Nat.ne_of_lt y86_B0)
      have B1_5 : Arr (w.heap.size + 1) [.int .i64 p.1, .int .i64 p.2.1, .int .i64 p.2.2.1, .int .i64 p.2.2.2.1, .int .i64 p.2.2.2.2.1, .int .i64 p.2.2.2.2.2] w5 := ((B1_4.alloc _).alloc _).drew.kept k5 (Nat.ne_of_lt y86_B1)
      have B3_5 : Arr w2.heap.size [.int .i64 o0, .int .i64 o1, .int .i64 o2, .int .i64 o3] w5 := ((B3_4.alloc _).alloc _).drew.kept k5 (Nat.ne_of_gt y87_B2)
      have B4_5 : Arr w4.heap.size [.int .i64 0, .int .i64 0, .int .i64 0] w5 := ((Arr_at _ _ [.int .i64 0, .int .i64 0, .int .i64 0] _ (by simp)).alloc _).drew.kept k5 (Nat.ne_of_gt y120_B2)
      have B5_5 : Arr (w4.heap.size + 1) [.int .i64 0, .int .i64 0, .int .i64 0] w5 := (Arr_at _ _ [.int .i64 0, .int .i64 0, .int .i64 0] _ (by simp)).drew.kept k5 (Nat.ne_of_gt y123_B2)
      have z5 := B5_5.lies
      clear hHeld
      refine hK.out _ _ B1_5 (fun hHeld => ?_)
      clear hK K K4 B0_4 B1_4 B2_4 B3_4 k5
      refine call_at (i := 7) (by kernel_rfl) rfl (fun K hK => ?_)
      go_simp
      refine (vUnit_any w1.heap.size false p.2.2.2 _ f5).mono ?_
      rintro e w6 ⟨rfl, f6, k6⟩
      rw [hb] at f6 ⊢
      dsimp only at f6 ⊢
      have K6 : Below w.heap.size w w6 := k6.on K5 (by omega)
      have B0_6 : Arr w.heap.size [.int .i64 q.1, .int .i64 q.2.1, .int .i64 q.2.2.1, .int .i64 q.2.2.2] w6 := B0_5.kept k6 (Nat.ne_of_lt y86_B0)
      have B1_6 : Arr (w.heap.size + 1) [.int .i64 p.1, .int .i64 p.2.1, .int .i64 p.2.2.1, .int .i64 p.2.2.2.1, .int .i64 p.2.2.2.2.1, .int .i64 p.2.2.2.2.2] w6 := B1_5.kept k6 (Nat.ne_of_lt y86_B1)
      have B3_6 : Arr w2.heap.size [.int .i64 o0, .int .i64 o1, .int .i64 o2, .int .i64 o3] w6 := B3_5.kept k6 (Nat.ne_of_gt y87_B2)
      have B4_6 : Arr w4.heap.size [.int .i64 0, .int .i64 0, .int .i64 0] w6 := B4_5.kept k6 (Nat.ne_of_gt y120_B2)
      have B5_6 : Arr (w4.heap.size + 1) [.int .i64 0, .int .i64 0, .int .i64 0] w6 := B5_5.kept k6 (Nat.ne_of_gt y123_B2)
      have z6 := B5_6.lies
      clear hHeld
      refine hK.out _ _ B1_6 (fun hHeld => ?_)
      clear hK K K5 B0_5 B1_5 f5 B3_5 B4_5 B5_5 k6
      refine call_at (i := 10) (by kernel_rfl) rfl (fun K hK => ?_)
      have c8_B4_0 : w6.cell? ⟨w4.heap.size, 0, none⟩ = some (.int .i64 0) := B4_6.c 0 (of_decide_eq_true rfl)
      have c8_B4_1 : w6.cell? ⟨w4.heap.size, 1, none⟩ = some (.int .i64 0) := B4_6.c 1 (of_decide_eq_true rfl)
      have c8_B4_2 : w6.cell? ⟨w4.heap.size, 2, none⟩ = some (.int .i64 0) := B4_6.c 2 (of_decide_eq_true rfl)
      have g8_B4_0 := B4_6.f 0 (of_decide_eq_true rfl)
      have g8_B4_1 := B4_6.f 1 (of_decide_eq_true rfl)
      have g8_B4_2 := B4_6.f 2 (of_decide_eq_true rfl)
      go_simp
      clear hHeld
      refine hK.out _ _ (((B1_6.new w4.heap.size 0 (Nat.ne_of_lt y120_B1) (.int .i64 a0)).new w4.heap.size 1 (Nat.ne_of_lt y120_B1) (.int .i64 a1)).new w4.heap.size 2 (Nat.ne_of_lt y120_B1) (.int .i64 a2)) (fun hHeld => ?_)
      clear hK K c8_B4_0 c8_B4_1 c8_B4_2 g8_B4_0 g8_B4_1 g8_B4_2
      refine call_at (i := 11) (by kernel_rfl) rfl (fun K hK => ?_)
      have c9_B5_0 : w6.cell? ⟨w4.heap.size + 1, 0, none⟩ = some (.int .i64 0) := B5_6.c 0 (of_decide_eq_true rfl)
      have c9_B5_1 : w6.cell? ⟨w4.heap.size + 1, 1, none⟩ = some (.int .i64 0) := B5_6.c 1 (of_decide_eq_true rfl)
      have c9_B5_2 : w6.cell? ⟨w4.heap.size + 1, 2, none⟩ = some (.int .i64 0) := B5_6.c 2 (of_decide_eq_true rfl)
      have g9_B5_0 := B5_6.f 0 (of_decide_eq_true rfl)
      have g9_B5_1 := B5_6.f 1 (of_decide_eq_true rfl)
      have g9_B5_2 := B5_6.f 2 (of_decide_eq_true rfl)
      go_simp
      clear hHeld
      refine hK.out _ _ ((((((B1_6.new w4.heap.size 0 (Nat.ne_of_lt y120_B1) (.int .i64 a0)).new w4.heap.size 1 (Nat.ne_of_lt y120_B1) (.int .i64 a1)).new w4.heap.size 2 (Nat.ne_of_lt y120_B1) (.int .i64 a2)).new (w4.heap.size + 1) 0 (Nat.ne_of_lt y123_B1) (.int .i64 b0)).new (w4.heap.size + 1) 1 (Nat.ne_of_lt y123_B1) (.int .i64 b1)).new (w4.heap.size + 1) 2 (Nat.ne_of_lt y123_B1) (.int .i64 b2)) (fun hHeld => ?_)
      clear hK K c9_B5_0 c9_B5_1 c9_B5_2 g9_B5_0 g9_B5_1 g9_B5_2
      refine wpAnyH_done (by kernel_rfl) ?_ _
      clear hHeld
      exact cont1 _ _ _ _ _ _ _ _ _ _ _ _ _ _ _ _ _ _ _ _ _ _ _ _ _ _ _ _ _ _ _ _ w4.heap.size (w4.heap.size + 1) (bel_new (bel_new (bel_new (bel_new (bel_new (bel_new K6 _ _ y120_low _) _ _ y120_low _) _ _ y120_low _) _ _ y123_low _) _ _ y123_low _) _ _ y123_low _) ((((((B0_6.new w4.heap.size 0 (Nat.ne_of_lt y120_B0) (.int .i64 a0)).new w4.heap.size 1 (Nat.ne_of_lt y120_B0) (.int .i64 a1)).new w4.heap.size 2 (Nat.ne_of_lt y120_B0) (.int .i64 a2)).new (w4.heap.size + 1) 0 (Nat.ne_of_lt y123_B0) (.int .i64 b0)).new (w4.heap.size + 1) 1 (Nat.ne_of_lt y123_B0) (.int .i64 b1)).new (w4.heap.size + 1) 2 (Nat.ne_of_lt y123_B0) (.int .i64 b2)) ((((((B1_6.new w4.heap.size 0 (Nat.ne_of_lt y120_B1) (.int .i64 a0)).new w4.heap.size 1 (Nat.ne_of_lt y120_B1) (.int .i64 a1)).new w4.heap.size 2 (Nat.ne_of_lt y120_B1) (.int .i64 a2)).new (w4.heap.size + 1) 0 (Nat.ne_of_lt y123_B1) (.int .i64 b0)).new (w4.heap.size + 1) 1 (Nat.ne_of_lt y123_B1) (.int .i64 b1)).new (w4.heap.size + 1) 2 (Nat.ne_of_lt y123_B1) (.int .i64 b2)) ((((((f6.new w4.heap.size 0 (Nat.ne_of_lt y120_B2) (.int .i64 a0)).new w4.heap.size 1 (Nat.ne_of_lt y120_B2) (.int .i64 a1)).new w4.heap.size 2 (Nat.ne_of_lt y120_B2) (.int .i64 a2)).new (w4.heap.size + 1) 0 (Nat.ne_of_lt y123_B2) (.int .i64 b0)).new (w4.heap.size + 1) 1 (Nat.ne_of_lt y123_B2) (.int .i64 b1)).new (w4.heap.size + 1) 2 (Nat.ne_of_lt y123_B2) (.int .i64 b2)) ((((((B3_6.new w4.heap.size 0 (Nat.ne_of_lt y120_B3) (.int .i64 a0)).new w4.heap.size 1 (Nat.ne_of_lt y120_B3) (.int .i64 a1)).new w4.heap.size 2 (Nat.ne_of_lt y120_B3) (.int .i64 a2)).new (w4.heap.size + 1) 0 (Nat.ne_of_lt y123_B3) (.int .i64 b0)).new (w4.heap.size + 1) 1 (Nat.ne_of_lt y123_B3) (.int .i64 b1)).new (w4.heap.size + 1) 2 (Nat.ne_of_lt y123_B3) (.int .i64 b2)) ((((((B4_6.put 0 (of_decide_eq_true rfl) (.int .i64 a0) [.int .i64 a0, .int .i64 0, .int .i64 0] rfl).put 1 (of_decide_eq_true rfl) (.int .i64 a1) [.int .i64 a0, .int .i64 a1, .int .i64 0] rfl).put 2 (of_decide_eq_true rfl) (.int .i64 a2) [.int .i64 a0, .int .i64 a1, .int .i64 a2] rfl).new (w4.heap.size + 1) 0 (Nat.ne_of_lt y123_B4) (.int .i64 b0)).new (w4.heap.size + 1) 1 (Nat.ne_of_lt y123_B4) (.int .i64 b1)).new (w4.heap.size + 1) 2 (Nat.ne_of_lt y123_B4) (.int .i64 b2)) ((((((B5_6.new w4.heap.size 0 (Nat.ne_of_gt y123_B4) (.int .i64 a0)).new w4.heap.size 1 (Nat.ne_of_gt y123_B4) (.int .i64 a1)).new w4.heap.size 2 (Nat.ne_of_gt y123_B4) (.int .i64 a2)).put 0 (of_decide_eq_true rfl) (.int .i64 b0) [.int .i64 b0, .int .i64 0, .int .i64 0] rfl).put 1 (of_decide_eq_true rfl) (.int .i64 b1) [.int .i64 b0, .int .i64 b1, .int .i64 0] rfl).put 2 (of_decide_eq_true rfl) (.int .i64 b2) [.int .i64 b0, .int .i64 b1, .int .i64 b2] rfl) y120_low y123_low y120_B0 y120_B1 y120_B2 y120_B3 y123_B0 y123_B1 y123_B2 y123_B3 (Nat.ne_of_lt y123_B4)
  · have y124_B0 : w.heap.size < w4.heap.size := B0_4.lies
    have y124_B1 : w.heap.size + 1 < w4.heap.size := B1_4.lies
    have y124_B2 : w1.heap.size < w4.heap.size := B2_4.lies
    have y124_B3 : w2.heap.size < w4.heap.size := B3_4.lies
    have y124_low : w.heap.size ≤ w4.heap.size := K4.size
    go_simp
    clear hHeld
    refine hK.out _ _ (B1_4.alloc _).drew (fun hHeld => ?_)
    clear hK K
    refine call_at2 (i0 := 3) (i1 := 8) (by kernel_rfl) rfl rfl (fun K hK => ?_) (fun K hK => ?_)
    · go_simp
      refine (vUnit_any w1.heap.size false (p.1, p.2.1, p.2.2.1) _ (B2_4.alloc _).drew).mono ?_
      rintro e w5 ⟨rfl, f5, k5⟩
      rw [ha] at f5 ⊢
      dsimp only at f5 ⊢
      have K5 : Below w.heap.size w w5 := k5.on (Below.drew (bel_al K4 _)) (by omega)
      have B0_5 : Arr w.heap.size [.int .i64 q.1, .int .i64 q.2.1, .int .i64 q.2.2.1, .int .i64 q.2.2.2] w5 := (B0_4.alloc _).drew.kept k5 (Nat.ne_of_lt y86_B0)
      have B1_5 : Arr (w.heap.size + 1) [.int .i64 p.1, .int .i64 p.2.1, .int .i64 p.2.2.1, .int .i64 p.2.2.2.1, .int .i64 p.2.2.2.2.1, .int .i64 p.2.2.2.2.2] w5 := (B1_4.alloc _).drew.kept k5 (Nat.ne_of_lt y86_B1)
      have B3_5 : Arr w2.heap.size [.int .i64 o0, .int .i64 o1, .int .i64 o2, .int .i64 o3] w5 := (B3_4.alloc _).drew.kept k5 (Nat.ne_of_gt y87_B2)
      have B4_5 : Arr w4.heap.size [.int .i64 0, .int .i64 0, .int .i64 0] w5 := (Arr_at _ _ [.int .i64 0, .int .i64 0, .int .i64 0] _ (by simp)).drew.kept k5 (Nat.ne_of_gt y124_B2)
      have z5 := B4_5.lies
      clear hHeld
      refine hK.out _ _ B1_5 (fun hHeld => ?_)
      clear hK K K4 B0_4 B1_4 B2_4 B3_4 k5
      refine call_at2 (i0 := 7) (i1 := 8) (by kernel_rfl) rfl rfl (fun K hK => ?_) (fun K hK => ?_)
      · go_simp
        refine (vUnit_any w1.heap.size false p.2.2.2 _ f5).mono ?_
        rintro e w6 ⟨rfl, f6, k6⟩
        rw [hb] at f6 ⊢
        dsimp only at f6 ⊢
        have K6 : Below w.heap.size w w6 := k6.on K5 (by omega)
        have B0_6 : Arr w.heap.size [.int .i64 q.1, .int .i64 q.2.1, .int .i64 q.2.2.1, .int .i64 q.2.2.2] w6 := B0_5.kept k6 (Nat.ne_of_lt y86_B0)
        have B1_6 : Arr (w.heap.size + 1) [.int .i64 p.1, .int .i64 p.2.1, .int .i64 p.2.2.1, .int .i64 p.2.2.2.1, .int .i64 p.2.2.2.2.1, .int .i64 p.2.2.2.2.2] w6 := B1_5.kept k6 (Nat.ne_of_lt y86_B1)
        have B3_6 : Arr w2.heap.size [.int .i64 o0, .int .i64 o1, .int .i64 o2, .int .i64 o3] w6 := B3_5.kept k6 (Nat.ne_of_gt y87_B2)
        have B4_6 : Arr w4.heap.size [.int .i64 0, .int .i64 0, .int .i64 0] w6 := B4_5.kept k6 (Nat.ne_of_gt y124_B2)
        have z6 := B4_6.lies
        clear hHeld
        refine hK.out _ _ B1_6 (fun hHeld => ?_)
        clear hK K K5 B0_5 B1_5 f5 B3_5 B4_5 k6
        refine call_at (i := 8) (by kernel_rfl) rfl (fun K hK => ?_)
        have y125_B0 : w.heap.size < w6.heap.size := B0_6.lies
        have y125_B1 : w.heap.size + 1 < w6.heap.size := B1_6.lies
        have y125_B2 : w1.heap.size < w6.heap.size := f6.lies
        have y125_B3 : w2.heap.size < w6.heap.size := B3_6.lies
        have y125_B4 : w4.heap.size < w6.heap.size := B4_6.lies
        have y125_low : w.heap.size ≤ w6.heap.size := K6.size
        go_simp
        clear hHeld
        refine hK.out _ _ (B1_6.alloc _) (fun hHeld => ?_)
        clear hK K
        refine call_at (i := 10) (by kernel_rfl) rfl (fun K hK => ?_)
        go_simp
        clear hHeld
        refine hK.out _ _ (B1_6.alloc _) (fun hHeld => ?_)
        clear hK K
        refine call_at (i := 11) (by kernel_rfl) rfl (fun K hK => ?_)
        have c9_B4_0 : w6.cell? ⟨w4.heap.size, 0, none⟩ = some (.int .i64 0) := B4_6.c 0 (of_decide_eq_true rfl)
        have c9_B4_1 : w6.cell? ⟨w4.heap.size, 1, none⟩ = some (.int .i64 0) := B4_6.c 1 (of_decide_eq_true rfl)
        have c9_B4_2 : w6.cell? ⟨w4.heap.size, 2, none⟩ = some (.int .i64 0) := B4_6.c 2 (of_decide_eq_true rfl)
        have g9_B4_0 := B4_6.f 0 (of_decide_eq_true rfl)
        have g9_B4_1 := B4_6.f 1 (of_decide_eq_true rfl)
        have g9_B4_2 := B4_6.f 2 (of_decide_eq_true rfl)
        have l9_B4 := B4_6.lies
        go_simp
        clear hHeld
        refine hK.out _ _ ((((B1_6.new w4.heap.size 0 (Nat.ne_of_lt y124_B1) (.int .i64 b0)).new w4.heap.size 1 (Nat.ne_of_lt y124_B1) (.int .i64 b1)).new w4.heap.size 2 (Nat.ne_of_lt y124_B1) (.int .i64 b2)).alloc _) (fun hHeld => ?_)
        clear hK K c9_B4_0 c9_B4_1 c9_B4_2 g9_B4_0 g9_B4_1 g9_B4_2 l9_B4
        refine wpAnyH_done (by kernel_rfl) ?_ _
        clear hHeld
        exact cont1 _ _ _ _ _ _ _ _ _ _ _ _ _ _ _ _ _ _ _ _ _ _ _ _ _ _ _ _ _ _ _ _ w6.heap.size w4.heap.size (bel_al (bel_new (bel_new (bel_new K6 _ _ y124_low _) _ _ y124_low _) _ _ y124_low _) _) ((((B0_6.new w4.heap.size 0 (Nat.ne_of_lt y124_B0) (.int .i64 b0)).new w4.heap.size 1 (Nat.ne_of_lt y124_B0) (.int .i64 b1)).new w4.heap.size 2 (Nat.ne_of_lt y124_B0) (.int .i64 b2)).alloc _) ((((B1_6.new w4.heap.size 0 (Nat.ne_of_lt y124_B1) (.int .i64 b0)).new w4.heap.size 1 (Nat.ne_of_lt y124_B1) (.int .i64 b1)).new w4.heap.size 2 (Nat.ne_of_lt y124_B1) (.int .i64 b2)).alloc _) ((((f6.new w4.heap.size 0 (Nat.ne_of_lt y124_B2) (.int .i64 b0)).new w4.heap.size 1 (Nat.ne_of_lt y124_B2) (.int .i64 b1)).new w4.heap.size 2 (Nat.ne_of_lt y124_B2) (.int .i64 b2)).alloc _) ((((B3_6.new w4.heap.size 0 (Nat.ne_of_lt y124_B3) (.int .i64 b0)).new w4.heap.size 1 (Nat.ne_of_lt y124_B3) (.int .i64 b1)).new w4.heap.size 2 (Nat.ne_of_lt y124_B3) (.int .i64 b2)).alloc _) (Arr_at _ _ [.int .i64 a0, .int .i64 a1, .int .i64 a2] _ (by simp)) ((((B4_6.put 0 (of_decide_eq_true rfl) (.int .i64 b0) [.int .i64 b0, .int .i64 0, .int .i64 0] rfl).put 1 (of_decide_eq_true rfl) (.int .i64 b1) [.int .i64 b0, .int .i64 b1, .int .i64 0] rfl).put 2 (of_decide_eq_true rfl) (.int .i64 b2) [.int .i64 b0, .int .i64 b1, .int .i64 b2] rfl).alloc _) y125_low y124_low y125_B0 y125_B1 y125_B2 y125_B3 y124_B0 y124_B1 y124_B2 y124_B3 (Nat.ne_of_gt y125_B4)
      · have y126_B0 : w.heap.size < w5.heap.size := B0_5.lies
        have y126_B1 : w.heap.size + 1 < w5.heap.size := B1_5.lies
        have y126_B2 : w1.heap.size < w5.heap.size := f5.lies
        have y126_B3 : w2.heap.size < w5.heap.size := B3_5.lies
        have y126_B4 : w4.heap.size < w5.heap.size := B4_5.lies
        have y126_low : w.heap.size ≤ w5.heap.size := K5.size
        go_simp
        clear hHeld
        refine hK.out _ _ (B1_5.alloc _) (fun hHeld => ?_)
        clear hK K
        refine call_at (i := 7) (by kernel_rfl) rfl (fun K hK => ?_)
        go_simp
        refine (vUnit_any w1.heap.size false p.2.2.2 _ (f5.alloc _)).mono ?_
        rintro e w6 ⟨rfl, f6, k6⟩
        rw [hb] at f6 ⊢
        dsimp only at f6 ⊢
        have K6 : Below w.heap.size w w6 := k6.on (bel_al K5 _) (by omega)
        have B0_6 : Arr w.heap.size [.int .i64 q.1, .int .i64 q.2.1, .int .i64 q.2.2.1, .int .i64 q.2.2.2] w6 := (B0_5.alloc _).kept k6 (Nat.ne_of_lt y86_B0)
        have B1_6 : Arr (w.heap.size + 1) [.int .i64 p.1, .int .i64 p.2.1, .int .i64 p.2.2.1, .int .i64 p.2.2.2.1, .int .i64 p.2.2.2.2.1, .int .i64 p.2.2.2.2.2] w6 := (B1_5.alloc _).kept k6 (Nat.ne_of_lt y86_B1)
        have B3_6 : Arr w2.heap.size [.int .i64 o0, .int .i64 o1, .int .i64 o2, .int .i64 o3] w6 := (B3_5.alloc _).kept k6 (Nat.ne_of_gt y87_B2)
        have B4_6 : Arr w4.heap.size [.int .i64 0, .int .i64 0, .int .i64 0] w6 := (B4_5.alloc _).kept k6 (Nat.ne_of_gt y124_B2)
        have B5_6 : Arr w5.heap.size [.int .i64 0, .int .i64 0, .int .i64 0] w6 := (Arr_at _ _ [.int .i64 0, .int .i64 0, .int .i64 0] _ (by simp)).kept k6 (Nat.ne_of_gt y126_B2)
        have z6 := B5_6.lies
        clear hHeld
        refine hK.out _ _ B1_6 (fun hHeld => ?_)
        clear hK K K5 B0_5 B1_5 f5 B3_5 B4_5 k6
        refine call_at (i := 10) (by kernel_rfl) rfl (fun K hK => ?_)
        have c8_B5_0 : w6.cell? ⟨w5.heap.size, 0, none⟩ = some (.int .i64 0) := B5_6.c 0 (of_decide_eq_true rfl)
        have c8_B5_1 : w6.cell? ⟨w5.heap.size, 1, none⟩ = some (.int .i64 0) := B5_6.c 1 (of_decide_eq_true rfl)
        have c8_B5_2 : w6.cell? ⟨w5.heap.size, 2, none⟩ = some (.int .i64 0) := B5_6.c 2 (of_decide_eq_true rfl)
        have g8_B5_0 := B5_6.f 0 (of_decide_eq_true rfl)
        have g8_B5_1 := B5_6.f 1 (of_decide_eq_true rfl)
        have g8_B5_2 := B5_6.f 2 (of_decide_eq_true rfl)
        go_simp
        clear hHeld
        refine hK.out _ _ (((B1_6.new w5.heap.size 0 (Nat.ne_of_lt y126_B1) (.int .i64 a0)).new w5.heap.size 1 (Nat.ne_of_lt y126_B1) (.int .i64 a1)).new w5.heap.size 2 (Nat.ne_of_lt y126_B1) (.int .i64 a2)) (fun hHeld => ?_)
        clear hK K c8_B5_0 c8_B5_1 c8_B5_2 g8_B5_0 g8_B5_1 g8_B5_2
        refine call_at (i := 11) (by kernel_rfl) rfl (fun K hK => ?_)
        have c9_B4_0 : w6.cell? ⟨w4.heap.size, 0, none⟩ = some (.int .i64 0) := B4_6.c 0 (of_decide_eq_true rfl)
        have c9_B4_1 : w6.cell? ⟨w4.heap.size, 1, none⟩ = some (.int .i64 0) := B4_6.c 1 (of_decide_eq_true rfl)
        have c9_B4_2 : w6.cell? ⟨w4.heap.size, 2, none⟩ = some (.int .i64 0) := B4_6.c 2 (of_decide_eq_true rfl)
        have g9_B4_0 := B4_6.f 0 (of_decide_eq_true rfl)
        have g9_B4_1 := B4_6.f 1 (of_decide_eq_true rfl)
        have g9_B4_2 := B4_6.f 2 (of_decide_eq_true rfl)
        go_simp
        clear hHeld
        refine hK.out _ _ ((((((B1_6.new w5.heap.size 0 (Nat.ne_of_lt y126_B1) (.int .i64 a0)).new w5.heap.size 1 (Nat.ne_of_lt y126_B1) (.int .i64 a1)).new w5.heap.size 2 (Nat.ne_of_lt y126_B1) (.int .i64 a2)).new w4.heap.size 0 (Nat.ne_of_lt y124_B1) (.int .i64 b0)).new w4.heap.size 1 (Nat.ne_of_lt y124_B1) (.int .i64 b1)).new w4.heap.size 2 (Nat.ne_of_lt y124_B1) (.int .i64 b2)) (fun hHeld => ?_)
        clear hK K c9_B4_0 c9_B4_1 c9_B4_2 g9_B4_0 g9_B4_1 g9_B4_2
        refine wpAnyH_done (by kernel_rfl) ?_ _
        clear hHeld
        exact cont1 _ _ _ _ _ _ _ _ _ _ _ _ _ _ _ _ _ _ _ _ _ _ _ _ _ _ _ _ _ _ _ _ w5.heap.size w4.heap.size (bel_new (bel_new (bel_new (bel_new (bel_new (bel_new K6 _ _ y126_low _) _ _ y126_low _) _ _ y126_low _) _ _ y124_low _) _ _ y124_low _) _ _ y124_low _) ((((((B0_6.new w5.heap.size 0 (Nat.ne_of_lt y126_B0) (.int .i64 a0)).new w5.heap.size 1 (Nat.ne_of_lt y126_B0) (.int .i64 a1)).new w5.heap.size 2 (Nat.ne_of_lt y126_B0) (.int .i64 a2)).new w4.heap.size 0 (Nat.ne_of_lt y124_B0) (.int .i64 b0)).new w4.heap.size 1 (Nat.ne_of_lt y124_B0) (.int .i64 b1)).new w4.heap.size 2 (Nat.ne_of_lt y124_B0) (.int .i64 b2)) ((((((B1_6.new w5.heap.size 0 (Nat.ne_of_lt y126_B1) (.int .i64 a0)).new w5.heap.size 1 (Nat.ne_of_lt y126_B1) (.int .i64 a1)).new w5.heap.size 2 (Nat.ne_of_lt y126_B1) (.int .i64 a2)).new w4.heap.size 0 (Nat.ne_of_lt y124_B1) (.int .i64 b0)).new w4.heap.size 1 (Nat.ne_of_lt y124_B1) (.int .i64 b1)).new w4.heap.size 2 (Nat.ne_of_lt y124_B1) (.int .i64 b2)) ((((((f6.new w5.heap.size 0 (Nat.ne_of_lt y126_B2) (.int .i64 a0)).new w5.heap.size 1 (Nat.ne_of_lt y126_B2) (.int .i64 a1)).new w5.heap.size 2 (Nat.ne_of_lt y126_B2) (.int .i64 a2)).new w4.heap.size 0 (Nat.ne_of_lt y124_B2) (.int .i64 b0)).new w4.heap.size 1 (Nat.ne_of_lt y124_B2) (.int .i64 b1)).new w4.heap.size 2 (Nat.ne_of_lt y124_B2) (.int .i64 b2)) ((((((B3_6.new w5.heap.size 0 (Nat.ne_of_lt y126_B3) (.int .i64 a0)).new w5.heap.size 1 (Nat.ne_of_lt y126_B3) (.int .i64 a1)).new w5.heap.size 2 (Nat.ne_of_lt y126_B3) (.int .i64 a2)).new w4.heap.size 0 (Nat.ne_of_lt y124_B3) (.int .i64 b0)).new w4.heap.size 1 (Nat.ne_of_lt y124_B3) (.int .i64 b1)).new w4.heap.size 2 (Nat.ne_of_lt y124_B3) (.int .i64 b2)) ((((((B5_6.put 0 (of_decide_eq_true rfl) (.int .i64 a0) [.int .i64 a0, .int .i64 0, .int .i64 0] rfl).put 1 (of_decide_eq_true rfl) (.int .i64 a1) [.int .i64 a0, .int .i64 a1, .int .i64 0] rfl).put 2 (of_decide_eq_true rfl) (.int .i64 a2) [.int .i64 a0, .int .i64 a1, .int .i64 a2] rfl).new w4.heap.size 0 (Nat.ne_of_gt y126_B4) (.int .i64 b0)).new w4.heap.size 1 (Nat.ne_of_gt y126_B4) (.int .i64 b1)).new w4.heap.size 2 (Nat.ne_of_gt y126_B4) (.int .i64 b2)) ((((((B4_6.new w5.heap.size 0 (Nat.ne_of_lt y126_B4) (.int .i64 a0)).new w5.heap.size 1 (Nat.ne_of_lt y126_B4) (.int .i64 a1)).new w5.heap.size 2 (Nat.ne_of_lt y126_B4) (.int .i64 a2)).put 0 (of_decide_eq_true rfl) (.int .i64 b0) [.int .i64 b0, .int .i64 0, .int .i64 0] rfl).put 1 (of_decide_eq_true rfl) (.int .i64 b1) [.int .i64 b0, .int .i64 b1, .int .i64 0] rfl).put 2 (of_decide_eq_true rfl) (.int .i64 b2) [.int .i64 b0, .int .i64 b1, .int .i64 b2] rfl) y126_low y124_low y126_B0 y126_B1 y126_B2 y126_B3 y124_B0 y124_B1 y124_B2 y124_B3 (Nat.ne_of_gt y126_B4)
    · have y127_B0 : w.heap.size < w4.heap.size + 1 := (Nat.lt_succ_of_lt B0_4.lies)
      have y127_B1 : w.heap.size + 1 < w4.heap.size + 1 := (Nat.lt_succ_of_lt B1_4.lies)
      have y127_B2 : w1.heap.size < w4.heap.size + 1 := (Nat.lt_succ_of_lt B2_4.lies)
      have y127_B3 : w2.heap.size < w4.heap.size + 1 := (Nat.lt_succ_of_lt B3_4.lies)
      have y127_B4 : w4.heap.size < w4.heap.size + 1 := (Nat.lt_succ_self _)
      have y127_low : w.heap.size ≤ w4.heap.size + 1 := (Nat.le_succ_of_le K4.size)
      go_simp
      clear hHeld
      refine hK.out _ _ ((B1_4.alloc _).alloc _).drew (fun hHeld => ?_)
      clear hK K
      refine call_at (i := 3) (by kernel_rfl) rfl (fun K hK => ?_)
      go_simp
      refine (vUnit_any w1.heap.size false (p.1, p.2.1, p.2.2.1) _ ((B2_4.alloc _).alloc _).drew).mono ?_
      rintro e w5 ⟨rfl, f5, k5⟩
      rw [ha] at f5 ⊢
      dsimp only at f5 ⊢
      have K5 : Below w.heap.size w w5 := k5.on (Below.drew (bel_al (bel_al K4 _) _)) (by omega)
      have B0_5 : Arr w.heap.size [.int .i64 q.1, .int .i64 q.2.1, .int .i64 q.2.2.1, .int .i64 q.2.2.2] w5 := ((B0_4.alloc _).alloc _).drew.kept k5 (Nat.ne_of_lt y86_B0)
      have B1_5 : Arr (w.heap.size + 1) [.int .i64 p.1, .int .i64 p.2.1, .int .i64 p.2.2.1, .int .i64 p.2.2.2.1, .int .i64 p.2.2.2.2.1, .int .i64 p.2.2.2.2.2] w5 := ((B1_4.alloc _).alloc _).drew.kept k5 (Nat.ne_of_lt y86_B1)
      have B3_5 : Arr w2.heap.size [.int .i64 o0, .int .i64 o1, .int .i64 o2, .int .i64 o3] w5 := ((B3_4.alloc _).alloc _).drew.kept k5 (Nat.ne_of_gt y87_B2)
      have B4_5 : Arr w4.heap.size [.int .i64 0, .int .i64 0, .int .i64 0] w5 := ((Arr_at _ _ [.int .i64 0, .int .i64 0, .int .i64 0] _ (by simp)).alloc _).drew.kept k5 (Nat.ne_of_gt y124_B2)
      have B5_5 : Arr (w4.heap.size + 1) [.int .i64 0, .int .i64 0, .int .i64 0] w5 := (Arr_at _ _ [.int .i64 0, .int .i64 0, .int .i64 0] _ (by simp)).drew.kept k5 (Nat.ne_of_gt y127_B2)
      have z5 := B5_5.lies
      clear hHeld
      refine hK.out _ _ B1_5 (fun hHeld => ?_)
      clear hK K K4 B0_4 B1_4 B2_4 B3_4 k5
      refine call_at (i := 7) (by kernel_rfl) rfl (fun K hK => ?_)
      go_simp
      refine (vUnit_any w1.heap.size false p.2.2.2 _ f5).mono ?_
      rintro e w6 ⟨rfl, f6, k6⟩
      rw [hb] at f6 ⊢
      dsimp only at f6 ⊢
      have K6 : Below w.heap.size w w6 := k6.on K5 (by omega)
      have B0_6 : Arr w.heap.size [.int .i64 q.1, .int .i64 q.2.1, .int .i64 q.2.2.1, .int .i64 q.2.2.2] w6 := B0_5.kept k6 (Nat.ne_of_lt y86_B0)
      have B1_6 : Arr (w.heap.size + 1) [.int .i64 p.1, .int .i64 p.2.1, .int .i64 p.2.2.1, .int .i64 p.2.2.2.1, .int .i64 p.2.2.2.2.1, .int .i64 p.2.2.2.2.2] w6 := B1_5.kept k6 (Nat.ne_of_lt y86_B1)
      have B3_6 : Arr w2.heap.size [.int .i64 o0, .int .i64 o1, .int .i64 o2, .int .i64 o3] w6 := B3_5.kept k6 (Nat.ne_of_gt y87_B2)
      have B4_6 : Arr w4.heap.size [.int .i64 0, .int .i64 0, .int .i64 0] w6 := B4_5.kept k6 (Nat.ne_of_gt y124_B2)
      have B5_6 : Arr (w4.heap.size + 1) [.int .i64 0, .int .i64 0, .int .i64 0] w6 := B5_5.kept k6 (Nat.ne_of_gt y127_B2)
      have z6 := B5_6.lies
      clear hHeld
      refine hK.out _ _ B1_6 (fun hHeld => ?_)
      clear hK K K5 B0_5 B1_5 f5 B3_5 B4_5 B5_5 k6
      refine call_at (i := 10) (by kernel_rfl) rfl (fun K hK => ?_)
      have c8_B5_0 : w6.cell? ⟨w4.heap.size + 1, 0, none⟩ = some (.int .i64 0) := B5_6.c 0 (of_decide_eq_true rfl)
      have c8_B5_1 : w6.cell? ⟨w4.heap.size + 1, 1, none⟩ = some (.int .i64 0) := B5_6.c 1 (of_decide_eq_true rfl)
      have c8_B5_2 : w6.cell? ⟨w4.heap.size + 1, 2, none⟩ = some (.int .i64 0) := B5_6.c 2 (of_decide_eq_true rfl)
      have g8_B5_0 := B5_6.f 0 (of_decide_eq_true rfl)
      have g8_B5_1 := B5_6.f 1 (of_decide_eq_true rfl)
      have g8_B5_2 := B5_6.f 2 (of_decide_eq_true rfl)
      go_simp
      clear hHeld
      refine hK.out _ _ (((B1_6.new (w4.heap.size + 1) 0 (Nat.ne_of_lt y127_B1) (.int .i64 a0)).new (w4.heap.size + 1) 1 (Nat.ne_of_lt y127_B1) (.int .i64 a1)).new (w4.heap.size + 1) 2 (Nat.ne_of_lt y127_B1) (.int .i64 a2)) (fun hHeld => ?_)
      clear hK K c8_B5_0 c8_B5_1 c8_B5_2 g8_B5_0 g8_B5_1 g8_B5_2
      refine call_at (i := 11) (by kernel_rfl) rfl (fun K hK => ?_)
      have c9_B4_0 : w6.cell? ⟨w4.heap.size, 0, none⟩ = some (.int .i64 0) := B4_6.c 0 (of_decide_eq_true rfl)
      have c9_B4_1 : w6.cell? ⟨w4.heap.size, 1, none⟩ = some (.int .i64 0) := B4_6.c 1 (of_decide_eq_true rfl)
      have c9_B4_2 : w6.cell? ⟨w4.heap.size, 2, none⟩ = some (.int .i64 0) := B4_6.c 2 (of_decide_eq_true rfl)
      have g9_B4_0 := B4_6.f 0 (of_decide_eq_true rfl)
      have g9_B4_1 := B4_6.f 1 (of_decide_eq_true rfl)
      have g9_B4_2 := B4_6.f 2 (of_decide_eq_true rfl)
      go_simp
      clear hHeld
      refine hK.out _ _ ((((((B1_6.new (w4.heap.size + 1) 0 (Nat.ne_of_lt y127_B1) (.int .i64 a0)).new (w4.heap.size + 1) 1 (Nat.ne_of_lt y127_B1) (.int .i64 a1)).new (w4.heap.size + 1) 2 (Nat.ne_of_lt y127_B1) (.int .i64 a2)).new w4.heap.size 0 (Nat.ne_of_lt y124_B1) (.int .i64 b0)).new w4.heap.size 1 (Nat.ne_of_lt y124_B1) (.int .i64 b1)).new w4.heap.size 2 (Nat.ne_of_lt y124_B1) (.int .i64 b2)) (fun hHeld => ?_)
      clear hK K c9_B4_0 c9_B4_1 c9_B4_2 g9_B4_0 g9_B4_1 g9_B4_2
      refine wpAnyH_done (by kernel_rfl) ?_ _
      clear hHeld
      exact cont1 _ _ _ _ _ _ _ _ _ _ _ _ _ _ _ _ _ _ _ _ _ _ _ _ _ _ _ _ _ _ _ _ (w4.heap.size + 1) w4.heap.size (bel_new (bel_new (bel_new (bel_new (bel_new (bel_new K6 _ _ y127_low _) _ _ y127_low _) _ _ y127_low _) _ _ y124_low _) _ _ y124_low _) _ _ y124_low _) ((((((B0_6.new (w4.heap.size + 1) 0 (Nat.ne_of_lt y127_B0) (.int .i64 a0)).new (w4.heap.size + 1) 1 (Nat.ne_of_lt y127_B0) (.int .i64 a1)).new (w4.heap.size + 1) 2 (Nat.ne_of_lt y127_B0) (.int .i64 a2)).new w4.heap.size 0 (Nat.ne_of_lt y124_B0) (.int .i64 b0)).new w4.heap.size 1 (Nat.ne_of_lt y124_B0) (.int .i64 b1)).new w4.heap.size 2 (Nat.ne_of_lt y124_B0) (.int .i64 b2)) ((((((B1_6.new (w4.heap.size + 1) 0 (Nat.ne_of_lt y127_B1) (.int .i64 a0)).new (w4.heap.size + 1) 1 (Nat.ne_of_lt y127_B1) (.int .i64 a1)).new (w4.heap.size + 1) 2 (Nat.ne_of_lt y127_B1) (.int .i64 a2)).new w4.heap.size 0 (Nat.ne_of_lt y124_B1) (.int .i64 b0)).new w4.heap.size 1 (Nat.ne_of_lt y124_B1) (.int .i64 b1)).new w4.heap.size 2 (Nat.ne_of_lt y124_B1) (.int .i64 b2)) ((((((f6.new (w4.heap.size + 1) 0 (Nat.ne_of_lt y127_B2) (.int .i64 a0)).new (w4.heap.size + 1) 1 (Nat.ne_of_lt y127_B2) (.int .i64 a1)).new (w4.heap.size + 1) 2 (Nat.ne_of_lt y127_B2) (.int .i64 a2)).new w4.heap.size 0 (Nat.ne_of_lt y124_B2) (.int .i64 b0)).new w4.heap.size 1 (Nat.ne_of_lt y124_B2) (.int .i64 b1)).new w4.heap.size 2 (Nat.ne_of_lt y124_B2) (.int .i64 b2)) ((((((B3_6.new (w4.heap.size + 1) 0 (Nat.ne_of_lt y127_B3) (.int .i64 a0)).new (w4.heap.size + 1) 1 (Nat.ne_of_lt y127_B3) (.int .i64 a1)).new (w4.heap.size + 1) 2 (Nat.ne_of_lt y127_B3) (.int .i64 a2)).new w4.heap.size 0 (Nat.ne_of_lt y124_B3) (.int .i64 b0)).new w4.heap.size 1 (Nat.ne_of_lt y124_B3) (.int .i64 b1)).new w4.heap.size 2 (Nat.ne_of_lt y124_B3) (.int .i64 b2)) ((((((B5_6.put 0 (of_decide_eq_true rfl) (.int .i64 a0) [.int .i64 a0, .int .i64 0, .int .i64 0] rfl).put 1 (of_decide_eq_true rfl) (.int .i64 a1) [.int .i64 a0, .int .i64 a1, .int .i64 0] rfl).put 2 (of_decide_eq_true rfl) (.int .i64 a2) [.int .i64 a0, .int .i64 a1, .int .i64 a2] rfl).new w4.heap.size 0 (Nat.ne_of_gt y127_B4) (.int .i64 b0)).new w4.heap.size 1 (Nat.ne_of_gt y127_B4) (.int .i64 b1)).new w4.heap.size 2 (Nat.ne_of_gt y127_B4) (.int .i64 b2)) ((((((B4_6.new (w4.heap.size + 1) 0 (Nat.ne_of_lt y127_B4) (.int .i64 a0)).new (w4.heap.size + 1) 1 (Nat.ne_of_lt y127_B4) (.int .i64 a1)).new (w4.heap.size + 1) 2 (Nat.ne_of_lt y127_B4) (.int .i64 a2)).put 0 (of_decide_eq_true rfl) (.int .i64 b0) [.int .i64 b0, .int .i64 0, .int .i64 0] rfl).put 1 (of_decide_eq_true rfl) (.int .i64 b1) [.int .i64 b0, .int .i64 b1, .int .i64 0] rfl).put 2 (of_decide_eq_true rfl) (.int .i64 b2) [.int .i64 b0, .int .i64 b1, .int .i64 b2] rfl) y127_low y124_low y127_B0 y127_B1 y127_B2 y127_B3 y124_B0 y124_B1 y124_B2 y124_B3 (Nat.ne_of_gt y127_B4)
theorem TriadBoth_any (q : V4) (p : V6) (w : World) :
    Calls Try.prog 6 #[.agg #[.int .i64 q.1, .int .i64 q.2.1, .int .i64 q.2.2.1, .int .i64 q.2.2.2], .agg #[.int .i64 p.1, .int .i64 p.2.1, .int .i64 p.2.2.1, .int .i64 p.2.2.2.1, .int .i64 p.2.2.2.2.1, .int .i64 p.2.2.2.2.2]] w fun e w' => e = .returned (.bool true) ∧ Below w.heap.size w w' := by
  rcases unit_math q with h | ⟨o0, o1, o2, o3, h, U⟩
  · exact TriadBoth_q q p w h
  cases l0 : longS (p.1, p.2.1, p.2.2.1)
  · exact TriadBoth_l0 q p w o0 o1 o2 o3 h l0
  cases l1 : longS p.2.2.2
  · exact TriadBoth_l1 q p w o0 o1 o2 o3 h l0 l1
  obtain ⟨a0, a1, a2, b0, b1, b2, t0, t1, t2, y0, y1, y2, s0, s1, ha, hb, ht, hy, hs, far⟩ := both_law U l0 l1
  by_cases hc : s0 < 300000000000
  · exact TriadBoth_near q p w o0 o1 o2 o3 h l0 l1 a0 a1 a2 b0 b1 b2 t0 t1 t2 y0 y1 y2 s0 s1 ha hb ht hy hs hc
  · obtain ⟨u0, u1, u2, u3, x0, x1, x2, x3, hu, hk, hx, n0, n1, n2⟩ := far (by omega)
    exact TriadBoth_good q p w o0 o1 o2 o3 h l0 l1 a0 a1 a2 b0 b1 b2 t0 t1 t2 y0 y1 y2 s0 s1 ha hb ht hy hs hc u0 u1 u2 u3 x0 x1 x2 x3 hu hk hx ⟨n0.lo, n0.hi⟩ ⟨n1.lo, n1.hi⟩ ⟨n2.lo, n2.hi⟩ (near5_yes (by simpa using n0) (by simpa using n1) (by simpa using n2))
end Go.Proofs.Ytkeijfbpkdelpaa
