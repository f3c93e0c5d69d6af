/- A part. -/
import Derived.Test.YtpjobkbefgehjaaGreatJA
import Derived.Test.YtpjobkbefgehjaaGreatJC
import Derived.Test.YtpjobkbefgehjaaGreatJW
import Derived.Test.YtpjobkbefgehjaaGreatJT
import Derived.Handy
import Derived.Deep.RegionHeld3
namespace Go.Proofs.YtpjobkbefgehjaaGreat
open Go.RowKit
set_option maxRecDepth 100000
set_option maxHeartbeats 20000000
theorem split_any0 (q : V4) (w : World) :
  Calls Tryz.prog 85 #[.agg #[.int .i64 q.1, .int .i64 q.2.1, .int .i64 q.2.2.1, .int .i64 q.2.2.2]] w fun e w' => e = .returned (.tuple #[.agg #[.int .i64 (splitS q).1.1, .int .i64 (splitS q).1.2.1, .int .i64 (splitS q).1.2.2], .int .i64 (splitS q).2]) ∧ Below w.heap.size w w' := by
 go_enter Tryz.func85, Tryz.ntmps85
 go_wp2_with fail
 refine wp_region_held_drew (S := fun w' => Arr w.heap.size [.int .i64 q.1, .int .i64 q.2.1, .int .i64 q.2.2.1, .int .i64 q.2.2.2] w') (by kernel_rfl) ((Arr_at _ _ [.int .i64 q.1, .int .i64 q.2.1, .int .i64 q.2.2.1, .int .i64 q.2.2.2] _ (by simp)).alloc _).drew (fun zH => ?_)
 refine zT 0 rfl (by kernel_rfl) (fun _ _ _ => id) rfl (fun _ _ => by go_simp <;> with_reducible rfl) zH ?_
 simp only [Act.put, zA, zB, zC]
 refine zT 1 rfl (by kernel_rfl) (fun _ _ _ => id) rfl (fun wx hS => by have hc0 : wx.cell? ⟨w.heap.size, 0, none⟩ = some (.int .i64 q.1) := hS.c 0 (zD rfl); go_simp <;> with_reducible rfl) zH ?_
 simp only [Act.put, zA, zB, zC]
 refine zT 2 rfl (by kernel_rfl) (fun _ _ _ => id) rfl (fun _ _ => by go_simp <;> with_reducible rfl) zH ?_
 simp only [Act.put, zA, zB, zC]
 refine zT 3 rfl (by kernel_rfl) (fun _ _ _ => id) rfl (fun wx hS => by have hc1 : wx.cell? ⟨w.heap.size, 1, none⟩ = some (.int .i64 q.2.1) := hS.c 1 (zD rfl); go_simp <;> with_reducible rfl) zH ?_
 simp only [Act.put, zA, zB, zC]
 refine zT 4 rfl (by kernel_rfl) (fun _ _ _ => id) rfl (fun _ _ => by go_simp <;> with_reducible rfl) zH ?_
 simp only [Act.put, zA, zB, zC]
 refine zT 5 rfl (by kernel_rfl) (fun _ _ _ => id) rfl (fun wx hS => by have hc2 : wx.cell? ⟨w.heap.size, 2, none⟩ = some (.int .i64 q.2.2.1) := hS.c 2 (zD rfl); go_simp <;> with_reducible rfl) zH ?_
 simp only [Act.put, zA, zB, zC]
 refine zT 6 rfl (by kernel_rfl) (fun _ _ _ => id) rfl (fun _ _ => by go_simp <;> with_reducible rfl) zH ?_
 simp only [Act.put, zA, zB, zC]
 refine zT 7 rfl (by kernel_rfl) (fun _ _ _ => id) rfl (fun _ _ => by go_simp <;> with_reducible rfl) zH ?_
 simp only [Act.put, zA, zB, zC]
 refine zT 8 rfl (by kernel_rfl) (fun _ _ _ => id) rfl (fun wx hS => by have hc3 : wx.cell? ⟨w.heap.size, 3, none⟩ = some (.int .i64 q.2.2.2) := hS.c 3 (zD rfl); go_simp <;> with_reducible rfl) zH ?_
 simp only [Act.put, zA, zB, zC]
 refine zK 9 (by kernel_rfl) rfl (fun K hK => ?_)
 go_simp
 clear zH
 refine hK.out _ _ ((Arr_at _ _ [.int .i64 q.1, .int .i64 q.2.1, .int .i64 q.2.2.1, .int .i64 q.2.2.2] _ (by simp)).alloc _).drew (fun zH => ?_)
 clear hK K
 refine zT 10 rfl (by kernel_rfl) (fun _ _ _ => id) rfl (fun _ _ => by go_simp <;> with_reducible rfl) zH ?_
 simp only [Act.put, zA, zB, zC]
 refine wpAnyH_done (by kernel_rfl) ?_ _
 clear zH
 go_wp2
 refine bodyPost_ret (v := .tuple #[.agg #[.int .i64 q.1, .int .i64 q.2.1, .int .i64 q.2.2.1], .int .i64 q.2.2.2]) (by simp [results, Tryz.results85, go_sem]) rfl ?_
 have hs : splitS q = ((q.1, q.2.1, q.2.2.1), q.2.2.2) := rfl
 rw [hs]
 exact ⟨rfl, (Below.drew (bel_al (bel_al (Below.refl w.heap.size w) _) _))⟩
theorem split_any (q : V4) (w : World) :
  Calls Tryz.prog 85 #[.agg #[.int .i64 q.1, .int .i64 q.2.1, .int .i64 q.2.2.1, .int .i64 q.2.2.2]] w fun e w' => e = .returned (.tuple #[.agg #[.int .i64 q.1, .int .i64 q.2.1, .int .i64 q.2.2.1], .int .i64 q.2.2.2]) ∧ Below w.heap.size w w' := split_any0 q w
theorem xjoin_any (b : Nat) (bad : Bool) (p : V3) (k : Int) (w : World) (hw : Fl b bad w) :
  Calls Tryz.prog 89 #[.pointer (some ⟨b, 0, none⟩), .agg #[.int .i64 p.1, .int .i64 p.2.1, .int .i64 p.2.2], .int .i64 k] w fun e w' => e = .returned (.agg #[.int .i64 ((xjoinS bad p k).1.1), .int .i64 ((xjoinS bad p k).1.2.1), .int .i64 ((xjoinS bad p k).1.2.2.1), .int .i64 ((xjoinS bad p k).1.2.2.2)]) ∧ Fl b (xjoinS bad p k).2 w' ∧ Kept b w w' := by
 have hl := hw.lies
 go_enter Tryz.func89, Tryz.ntmps89
 rcases Bool.eq_false_or_eq_true bad with hc1 | hc1
 ·have Hhc1 : Hid (bad = true) := hc1
  have c1_BF := hw.cell
  have l1_BF := hw.lies
  go_wp2
  clear c1_BF l1_BF
  refine bodyPost_ret (v := .agg #[.int .i64 0, .int .i64 0, .int .i64 0, .int .i64 0]) (by simp [results, Tryz.results89, go_sem]) rfl ?_
  have hs : xjoinS bad p k = ((0, 0, 0, 0), bad) := by unfold xjoinS; rw [if_pos Hhc1.out]
  rw [hs]
  exact ⟨rfl, ((hw.alloc _).alloc _), (((Kept.refl b w).al _).al _)⟩
 ·have Hhc1 : Hid (bad = false) := hc1
  have c1_BF := hw.cell
  have l1_BF := hw.lies
  go_wp2
  clear c1_BF l1_BF
  refine bodyPost_ret (v := .agg #[.int .i64 p.1, .int .i64 p.2.1, .int .i64 p.2.2, .int .i64 k]) (by simp [results, Tryz.results89, go_sem]) rfl ?_
  have hs : xjoinS bad p k = ((p.1, p.2.1, p.2.2, k), bad) := by unfold xjoinS; rw [if_neg (by rw [Hhc1.out]; decide)]
  rw [hs]
  exact ⟨rfl, ((hw.alloc _).alloc _), (((Kept.refl b w).al _).al _)⟩
end Go.Proofs.YtpjobkbefgehjaaGreat
namespace Go.Proofs.YtpjobkbefgehjaaGreat
open Go.RowKit
set_option maxRecDepth 100000
set_option maxHeartbeats 20000000
theorem xMul_any (b : Nat) (bad : Bool) (p : V4) (q : V4) (w : World) (hw : Fl b bad w) :
  Calls Tryz.prog 30 #[.pointer (some ⟨b, 0, none⟩), .agg #[.int .i64 p.1, .int .i64 p.2.1, .int .i64 p.2.2.1, .int .i64 p.2.2.2], .agg #[.int .i64 q.1, .int .i64 q.2.1, .int .i64 q.2.2.1, .int .i64 q.2.2.2]] w fun e w' => e = .returned (.agg #[.int .i64 ((xMulS bad p q).1.1), .int .i64 ((xMulS bad p q).1.2.1), .int .i64 ((xMulS bad p q).1.2.2.1), .int .i64 ((xMulS bad p q).1.2.2.2)]) ∧ Fl b (xMulS bad p q).2 w' ∧ Kept b w w' := by
 have hl := hw.lies
 go_enter Tryz.func30, Tryz.ntmps30
 go_wp2_with fail
 refine (split_any p _).mono ?_
 rintro e w1 ⟨rfl, k1⟩
 have K1 : Kept b w w1 := Kept.trans ((((Kept.refl b w).al _).al _).al _) (Kept.of_below k1)
 have BF_1 := (((hw.alloc _).alloc _).alloc _).below k1
 have B0_1 := (((Arr_at _ w.heap.size [.int .i64 p.1, .int .i64 p.2.1, .int .i64 p.2.2.1, .int .i64 p.2.2.2] _ (by simp)).alloc _).alloc _).below k1
 have B1_1 := ((Arr_at _ (w.heap.size + 1) [.int .i64 q.1, .int .i64 q.2.1, .int .i64 q.2.2.1, .int .i64 q.2.2.2] _ (by simp)).alloc _).below k1
 have B2_1 := (Arr_at _ (w.heap.size + 1 + 1) [.int .i64 0, .int .i64 0, .int .i64 0, .int .i64 0] _ (by simp)).below k1
 have z1 := B2_1.lies
 clear k1
 have c2_B1_0 : w1.cell? ⟨w.heap.size + 1, 0, none⟩ = some (.int .i64 q.1) := B1_1.c 0 (zD rfl)
 have c2_B1_1 : w1.cell? ⟨w.heap.size + 1, 1, none⟩ = some (.int .i64 q.2.1) := B1_1.c 1 (zD rfl)
 have c2_B1_2 : w1.cell? ⟨w.heap.size + 1, 2, none⟩ = some (.int .i64 q.2.2.1) := B1_1.c 2 (zD rfl)
 have c2_B1_3 : w1.cell? ⟨w.heap.size + 1, 3, none⟩ = some (.int .i64 q.2.2.2) := B1_1.c 3 (zD rfl)
 have l2_B1 := B1_1.lies
 go_wp2_with fail
 refine (split_any q _).mono ?_
 rintro e w2 ⟨rfl, k2⟩
 have K2 : Kept b w w2 := Kept.trans (K1.al _) (Kept.of_below k2)
 have BF_2 := (BF_1.alloc _).below k2
 have B0_2 := (B0_1.alloc _).below k2
 have B1_2 := (B1_1.alloc _).below k2
 have B2_2 := (B2_1.alloc _).below k2
 have B3_2 := (Arr_at _ w1.heap.size [.int .i64 p.1, .int .i64 p.2.1, .int .i64 p.2.2.1] _ (by simp)).below k2
 have z2 := B3_2.lies
 clear c2_B1_0 c2_B1_1 c2_B1_2 c2_B1_3 l2_B1 K1 BF_1 B0_1 B1_1 B2_1 k2
 have c3_B3_0 : w2.cell? ⟨w1.heap.size, 0, none⟩ = some (.int .i64 p.1) := B3_2.c 0 (zD rfl)
 have c3_B3_1 : w2.cell? ⟨w1.heap.size, 1, none⟩ = some (.int .i64 p.2.1) := B3_2.c 1 (zD rfl)
 have c3_B3_2 : w2.cell? ⟨w1.heap.size, 2, none⟩ = some (.int .i64 p.2.2.1) := B3_2.c 2 (zD rfl)
 have l3_B3 := B3_2.lies
 go_wp2_with fail
 refine (uScale_any b bad (p.1, p.2.1, p.2.2.1) q.2.2.2 _ (BF_2.alloc _)).mono ?_
 rintro e w3 ⟨rfl, f3, k3⟩
 generalize e3 : uScaleS bad (p.1, p.2.1, p.2.2.1) q.2.2.2 = r3 at f3 ⊢
 have E3 : Hid _ := e3
 clear e3
 have K3 : Kept b w w3 := Kept.trans (K2.al _) k3
 have B0_3 := (B0_2.alloc _).kept k3 (by omega)
 have B1_3 := (B1_2.alloc _).kept k3 (by omega)
 have B2_3 := (B2_2.alloc _).kept k3 (by omega)
 have B3_3 := (B3_2.alloc _).kept k3 (by omega)
 have B4_3 : Arr w2.heap.size [.int .i64 q.1, .int .i64 q.2.1, .int .i64 q.2.2.1] w3 := (Arr_at _ _ [.int .i64 q.1, .int .i64 q.2.1, .int .i64 q.2.2.1] _ (by simp)).kept k3 (by omega)
 have z3 := B4_3.lies
 clear c3_B3_0 c3_B3_1 c3_B3_2 l3_B3 K2 BF_2 B0_2 B1_2 B2_2 B3_2 k3
 have c4_B4_0 : w3.cell? ⟨w2.heap.size, 0, none⟩ = some (.int .i64 q.1) := B4_3.c 0 (zD rfl)
 have c4_B4_1 : w3.cell? ⟨w2.heap.size, 1, none⟩ = some (.int .i64 q.2.1) := B4_3.c 1 (zD rfl)
 have c4_B4_2 : w3.cell? ⟨w2.heap.size, 2, none⟩ = some (.int .i64 q.2.2.1) := B4_3.c 2 (zD rfl)
 have l4_B4 := B4_3.lies
 go_wp2_with fail
 refine (uScale_any b r3.2 (q.1, q.2.1, q.2.2.1) p.2.2.2 _ (f3.alloc _)).mono ?_
 rintro e w4 ⟨rfl, f4, k4⟩
 generalize e4 : uScaleS r3.2 (q.1, q.2.1, q.2.2.1) p.2.2.2 = r4 at f4 ⊢
 have E4 : Hid _ := e4
 clear e4
 have K4 : Kept b w w4 := Kept.trans (K3.al _) k4
 have B0_4 := (B0_3.alloc _).kept k4 (by omega)
 have B1_4 := (B1_3.alloc _).kept k4 (by omega)
 have B2_4 := (B2_3.alloc _).kept k4 (by omega)
 have B3_4 := (B3_3.alloc _).kept k4 (by omega)
 have B4_4 := (B4_3.alloc _).kept k4 (by omega)
 have B5_4 : Arr w3.heap.size [.int .i64 r3.1.1, .int .i64 r3.1.2.1, .int .i64 r3.1.2.2] w4 := (Arr_at _ _ [.int .i64 r3.1.1, .int .i64 r3.1.2.1, .int .i64 r3.1.2.2] _ (by simp)).kept k4 (by omega)
 have z4 := B5_4.lies
 clear c4_B4_0 c4_B4_1 c4_B4_2 l4_B4 K3 f3 B0_3 B1_3 B2_3 B3_3 B4_3 k4
 have c5_B3_0 : w4.cell? ⟨w1.heap.size, 0, none⟩ = some (.int .i64 p.1) := B3_4.c 0 (zD rfl)
 have c5_B3_1 : w4.cell? ⟨w1.heap.size, 1, none⟩ = some (.int .i64 p.2.1) := B3_4.c 1 (zD rfl)
 have c5_B3_2 : w4.cell? ⟨w1.heap.size, 2, none⟩ = some (.int .i64 p.2.2.1) := B3_4.c 2 (zD rfl)
 have c5_B4_0 : w4.cell? ⟨w2.heap.size, 0, none⟩ = some (.int .i64 q.1) := B4_4.c 0 (zD rfl)
 have c5_B4_1 : w4.cell? ⟨w2.heap.size, 1, none⟩ = some (.int .i64 q.2.1) := B4_4.c 1 (zD rfl)
 have c5_B4_2 : w4.cell? ⟨w2.heap.size, 2, none⟩ = some (.int .i64 q.2.2.1) := B4_4.c 2 (zD rfl)
 have l5_B3 := B3_4.lies
 have l5_B4 := B4_4.lies
 go_wp2_with fail
 refine (uCross_any b r4.2 (q.1, q.2.1, q.2.2.1) (p.1, p.2.1, p.2.2.1) _ (f4.alloc _)).mono ?_
 rintro e w5 ⟨rfl, f5, k5⟩
 generalize e5 : uCrossS r4.2 (q.1, q.2.1, q.2.2.1) (p.1, p.2.1, p.2.2.1) = r5 at f5 ⊢
 have E5 : Hid _ := e5
 clear e5
 have K5 : Kept b w w5 := Kept.trans (K4.al _) k5
 have B0_5 := (B0_4.alloc _).kept k5 (by omega)
 have B1_5 := (B1_4.alloc _).kept k5 (by omega)
 have B2_5 := (B2_4.alloc _).kept k5 (by omega)
 have B3_5 := (B3_4.alloc _).kept k5 (by omega)
 have B4_5 := (B4_4.alloc _).kept k5 (by omega)
 have B5_5 := (B5_4.alloc _).kept k5 (by omega)
 have B6_5 : Arr w4.heap.size [.int .i64 r4.1.1, .int .i64 r4.1.2.1, .int .i64 r4.1.2.2] w5 := (Arr_at _ _ [.int .i64 r4.1.1, .int .i64 r4.1.2.1, .int .i64 r4.1.2.2] _ (by simp)).kept k5 (by omega)
 have z5 := B6_5.lies
 clear c5_B3_0 c5_B3_1 c5_B3_2 c5_B4_0 c5_B4_1 c5_B4_2 l5_B3 l5_B4 K4 f4 B0_4 B1_4 B2_4 B3_4 B4_4 B5_4 k5
 go_wp2_with fail
 rename_i K0 aK0
 have cont1 : ∀ (W1 : World) (n16 n17 n18 n19 n20 n21 n22 n23 n24 n25 n26 n27 n28 n29 n30 n31 n32 n33 n34 n35 n36 n37 n38 n39 n40 n41 n42 n43 n44 : Value) (x1_0 : Nat) (r6 : _) (r7 : _) , Hid (uAddS r5.2 r3.1 r4.1 = r6) → Hid (uAddS r6.2 r6.1 r5.1 = r7) → Kept b w W1 → Fl b r7.2 W1 → Arr w.heap.size [.int .i64 p.1, .int .i64 p.2.1, .int .i64 p.2.2.1, .int .i64 p.2.2.2] W1 → Arr (w.heap.size + 1) [.int .i64 q.1, .int .i64 q.2.1, .int .i64 q.2.2.1, .int .i64 q.2.2.2] W1 → Arr (w.heap.size + 1 + 1) [.int .i64 0, .int .i64 0, .int .i64 0, .int .i64 0] W1 → Arr w1.heap.size [.int .i64 p.1, .int .i64 p.2.1, .int .i64 p.2.2.1] W1 → Arr w2.heap.size [.int .i64 q.1, .int .i64 q.2.1, .int .i64 q.2.2.1] W1 → Arr w3.heap.size [.int .i64 r3.1.1, .int .i64 r3.1.2.1, .int .i64 r3.1.2.2] W1 → Arr w4.heap.size [.int .i64 r4.1.1, .int .i64 r4.1.2.1, .int .i64 r4.1.2.2] W1 → Arr w5.heap.size [.int .i64 r5.1.1, .int .i64 r5.1.2.1, .int .i64 r5.1.2.2] W1 → Arr x1_0 [.int .i64 r7.1.1, .int .i64 r7.1.2.1, .int .i64 r7.1.2.2] W1 → w.heap.size ≤ x1_0 → b < x1_0 → w.heap.size < x1_0 → w.heap.size + 1 < x1_0 → w.heap.size + 1 + 1 < x1_0 → w1.heap.size < x1_0 → w2.heap.size < x1_0 → w3.heap.size < x1_0 → w4.heap.size < x1_0 → w5.heap.size < x1_0 → K0 { tmps := #[.pointer (some ⟨b, 0, none⟩), .agg #[.int .i64 p.1, .int .i64 p.2.1, .int .i64 p.2.2.1, .int .i64 p.2.2.2], .agg #[.int .i64 q.1, .int .i64 q.2.1, .int .i64 q.2.2.1, .int .i64 q.2.2.2], undef, .pointer (some ⟨w.heap.size, 0, none⟩), .pointer (some ⟨w.heap.size + 1, 0, none⟩), .pointer (some ⟨w.heap.size + 1 + 1, 0, none⟩), .pointer (some ⟨w1.heap.size, 0, none⟩), .int .i64 p.2.2.2, .pointer (some ⟨w2.heap.size, 0, none⟩), .int .i64 q.2.2.2, .pointer (some ⟨w3.heap.size, 0, none⟩), .pointer (some ⟨w4.heap.size, 0, none⟩), .pointer (some ⟨w5.heap.size, 0, none⟩), .pointer (some ⟨x1_0, 0, none⟩), undef, n16, n17, n18, n19, n20, n21, n22, n23, n24, n25, n26, n27, n28, n29, n30, n31, n32, n33, n34, n35, n36, n37, n38, n39, n40, n41, n42, n43, n44, undef, undef, undef, undef, undef, undef, undef, undef, undef, undef, undef, undef, undef, undef], defers := [] } W1 := by
  intro W1 n16 n17 n18 n19 n20 n21 n22 n23 n24 n25 n26 n27 n28 n29 n30 n31 n32 n33 n34 n35 n36 n37 n38 n39 n40 n41 n42 n43 n44 x1_0 r6 r7 E6 E7 KC1 BF_c1 B0_c1 B1_c1 B2_c1 B3_c1 B4_c1 B5_c1 B6_c1 B7_c1 B8_c1 s1_0 s1_1 s1_2 s1_3 s1_4 s1_5 s1_6 s1_7 s1_8 s1_9
  apply aK0
  go_wp2_with fail
  refine wp_region_held_drew (S := fun w' => Arr w1.heap.size [.int .i64 p.1, .int .i64 p.2.1, .int .i64 p.2.2.1] w' ∧ Arr w2.heap.size [.int .i64 q.1, .int .i64 q.2.1, .int .i64 q.2.2.1] w') (by kernel_rfl) ⟨B3_c1.drew, B4_c1.drew⟩ (fun zH => ?_)
  refine zT 0 rfl (by kernel_rfl) (fun _ _ _ => id) rfl (fun _ _ => by go_simp <;> with_reducible rfl) zH ?_
  simp only [Act.put, zA, zB, zC]
  refine zT 1 rfl (by kernel_rfl) (fun _ _ _ => id) rfl (fun _ _ => by go_simp <;> with_reducible rfl) zH ?_
  simp only [Act.put, zA, zB, zC]
  refine zT 2 rfl (by kernel_rfl) (fun _ _ _ => id) rfl (fun _ _ => by go_simp <;> with_reducible rfl) zH ?_
  simp only [Act.put, zA, zB, zC]
  refine zT 3 rfl (by kernel_rfl) (fun _ _ _ => id) rfl (fun _ _ => by go_simp <;> with_reducible rfl) zH ?_
  simp only [Act.put, zA, zB, zC]
  refine zT 5 rfl (by kernel_rfl) (fun _ _ _ => id) rfl (fun _ _ => by go_simp <;> with_reducible rfl) zH ?_
  simp only [Act.put, zA, zB, zC]
  refine zT 6 rfl (by kernel_rfl) (fun _ _ _ => id) rfl (fun wx hS => by have hc0 : wx.cell? ⟨w1.heap.size, 0, none⟩ = some (.int .i64 p.1) := hS.1.c 0 (zD rfl); have hc1 : wx.cell? ⟨w1.heap.size, 1, none⟩ = some (.int .i64 p.2.1) := hS.1.c 1 (zD rfl); have hc2 : wx.cell? ⟨w1.heap.size, 2, none⟩ = some (.int .i64 p.2.2.1) := hS.1.c 2 (zD rfl); go_simp <;> with_reducible rfl) zH ?_
  simp only [Act.put, zA, zB, zC]
  refine zT 7 rfl (by kernel_rfl) (fun _ _ _ => id) rfl (fun wx hS => by have hc0 : wx.cell? ⟨w2.heap.size, 0, none⟩ = some (.int .i64 q.1) := hS.2.c 0 (zD rfl); have hc1 : wx.cell? ⟨w2.heap.size, 1, none⟩ = some (.int .i64 q.2.1) := hS.2.c 1 (zD rfl); have hc2 : wx.cell? ⟨w2.heap.size, 2, none⟩ = some (.int .i64 q.2.2.1) := hS.2.c 2 (zD rfl); go_simp <;> with_reducible rfl) zH ?_
  simp only [Act.put, zA, zB, zC]
  refine zK 4 (by kernel_rfl) rfl (fun K hK => ?_)
  go_simp
  refine (rMul_any b r7.2 p.2.2.2 q.2.2.2 _ BF_c1.drew).mono ?_
  rintro e w8 ⟨rfl, f8, k8⟩
  generalize e8 : mulS r7.2 p.2.2.2 q.2.2.2 = r8 at f8 ⊢
  have E8 : Hid _ := e8
  clear e8
  have K8 : Kept b w w8 := Kept.trans KC1.drew k8
  have B0_8 := B0_c1.drew.kept k8 (by omega)
  have B1_8 := B1_c1.drew.kept k8 (by omega)
  have B2_8 := B2_c1.drew.kept k8 (by omega)
  have B3_8 := B3_c1.drew.kept k8 (by omega)
  have B4_8 := B4_c1.drew.kept k8 (by omega)
  have B5_8 := B5_c1.drew.kept k8 (by omega)
  have B6_8 := B6_c1.drew.kept k8 (by omega)
  have B7_8 := B7_c1.drew.kept k8 (by omega)
  have B8_8 := B8_c1.drew.kept k8 (by omega)
  have z8 := B8_8.lies
  clear zH
  refine hK.out _ _ ⟨B3_8, B4_8⟩ (fun zH => ?_)
  clear hK K BF_c1 B0_c1 B1_c1 B2_c1 B3_c1 B4_c1 B5_c1 B6_c1 B7_c1 B8_c1 k8
  refine zK 8 (by kernel_rfl) rfl (fun K hK => ?_)
  go_simp
  refine (uDot_any b r8.2 (p.1, p.2.1, p.2.2.1) (q.1, q.2.1, q.2.2.1) _ f8).mono ?_
  rintro e w9 ⟨rfl, f9, k9⟩
  generalize e9 : uDotS r8.2 (p.1, p.2.1, p.2.2.1) (q.1, q.2.1, q.2.2.1) = r9 at f9 ⊢
  have E9 : Hid _ := e9
  clear e9
  have K9 := Kept.trans K8 k9
  have B0_9 := B0_8.kept k9 (by omega)
  have B1_9 := B1_8.kept k9 (by omega)
  have B2_9 := B2_8.kept k9 (by omega)
  have B3_9 := B3_8.kept k9 (by omega)
  have B4_9 := B4_8.kept k9 (by omega)
  have B5_9 := B5_8.kept k9 (by omega)
  have B6_9 := B6_8.kept k9 (by omega)
  have B7_9 := B7_8.kept k9 (by omega)
  have B8_9 := B8_8.kept k9 (by omega)
  have z9 := B8_9.lies
  clear zH
  refine hK.out _ _ ⟨B3_9, B4_9⟩ (fun zH => ?_)
  clear hK K K8 f8 B0_8 B1_8 B2_8 B3_8 B4_8 B5_8 B6_8 B7_8 B8_8 k9
  refine zK 9 (by kernel_rfl) rfl (fun K hK => ?_)
  go_simp
  refine (rSub_any b r9.2 r8.1 r9.1 _ f9).mono ?_
  rintro e w10 ⟨rfl, f10, k10⟩
  generalize e10 : subS r9.2 r8.1 r9.1 = r10 at f10 ⊢
  have E10 : Hid _ := e10
  clear e10
  have K10 := Kept.trans K9 k10
  have B0_10 := B0_9.kept k10 (by omega)
  have B1_10 := B1_9.kept k10 (by omega)
  have B2_10 := B2_9.kept k10 (by omega)
  have B3_10 := B3_9.kept k10 (by omega)
  have B4_10 := B4_9.kept k10 (by omega)
  have B5_10 := B5_9.kept k10 (by omega)
  have B6_10 := B6_9.kept k10 (by omega)
  have B7_10 := B7_9.kept k10 (by omega)
  have B8_10 := B8_9.kept k10 (by omega)
  have z10 := B8_10.lies
  clear zH
  refine hK.out _ _ ⟨B3_10, B4_10⟩ (fun zH => ?_)
  clear hK K K9 f9 B0_9 B1_9 B2_9 B3_9 B4_9 B5_9 B6_9 B7_9 B8_9 k10
  refine zT 10 rfl (by kernel_rfl) (fun _ _ _ => id) rfl (fun _ _ => by go_simp <;> with_reducible rfl) zH ?_
  simp only [Act.put, zA, zB, zC]
  refine wpAnyH_done (by kernel_rfl) ?_ _
  clear zH
  have c8_B8_0 : w10.cell? ⟨x1_0, 0, none⟩ = some (.int .i64 r7.1.1) := B8_10.c 0 (zD rfl)
  have c8_B8_1 : w10.cell? ⟨x1_0, 1, none⟩ = some (.int .i64 r7.1.2.1) := B8_10.c 1 (zD rfl)
  have c8_B8_2 : w10.cell? ⟨x1_0, 2, none⟩ = some (.int .i64 r7.1.2.2) := B8_10.c 2 (zD rfl)
  go_wp2_with fail
  refine (xjoin_any b r10.2 r7.1 r10.1 _ f10).mono ?_
  rintro e w11 ⟨rfl, f11, k11⟩
  generalize e11 : xjoinS r10.2 r7.1 r10.1 = r11 at f11 ⊢
  have E11 : Hid _ := e11
  clear e11
  have K11 := Kept.trans K10 k11
  have B0_11 := B0_10.kept k11 (by omega)
  have B1_11 := B1_10.kept k11 (by omega)
  have B2_11 := B2_10.kept k11 (by omega)
  have B3_11 := B3_10.kept k11 (by omega)
  have B4_11 := B4_10.kept k11 (by omega)
  have B5_11 := B5_10.kept k11 (by omega)
  have B6_11 := B6_10.kept k11 (by omega)
  have B7_11 := B7_10.kept k11 (by omega)
  have B8_11 := B8_10.kept k11 (by omega)
  have z11 := B8_11.lies
  clear c8_B8_0 c8_B8_1 c8_B8_2 K10 f10 B0_10 B1_10 B2_10 B3_10 B4_10 B5_10 B6_10 B7_10 B8_10 k11
  have c9_B2_0 : w11.cell? ⟨w.heap.size + 1 + 1, 0, none⟩ = some (.int .i64 0) := B2_11.c 0 (zD rfl)
  have c9_B2_1 : w11.cell? ⟨w.heap.size + 1 + 1, 1, none⟩ = some (.int .i64 0) := B2_11.c 1 (zD rfl)
  have c9_B2_2 : w11.cell? ⟨w.heap.size + 1 + 1, 2, none⟩ = some (.int .i64 0) := B2_11.c 2 (zD rfl)
  have c9_B2_3 : w11.cell? ⟨w.heap.size + 1 + 1, 3, none⟩ = some (.int .i64 0) := B2_11.c 3 (zD rfl)
  have g9_B2_0 := B2_11.f 0 (zD rfl)
  have g9_B2_1 := B2_11.f 1 (zD rfl)
  have g9_B2_2 := B2_11.f 2 (zD rfl)
  have g9_B2_3 := B2_11.f 3 (zD rfl)
  go_wp2
  clear c9_B2_0 c9_B2_1 c9_B2_2 c9_B2_3 g9_B2_0 g9_B2_1 g9_B2_2 g9_B2_3
  have d0 := Arr.c (B2_11.put 0 (zD rfl) (.int .i64 r11.1.1) [.int .i64 r11.1.1, .int .i64 0, .int .i64 0, .int .i64 0] rfl) 0 (zD rfl)
  have d1 := Arr.c ((B2_11.put 0 (zD rfl) (.int .i64 r11.1.1) [.int .i64 r11.1.1, .int .i64 0, .int .i64 0, .int .i64 0] rfl).put 1 (zD rfl) (.int .i64 r11.1.2.1) [.int .i64 r11.1.1, .int .i64 r11.1.2.1, .int .i64 0, .int .i64 0] rfl) 1 (zD rfl)
  have d2 := Arr.c (((B2_11.put 0 (zD rfl) (.int .i64 r11.1.1) [.int .i64 r11.1.1, .int .i64 0, .int .i64 0, .int .i64 0] rfl).put 1 (zD rfl) (.int .i64 r11.1.2.1) [.int .i64 r11.1.1, .int .i64 r11.1.2.1, .int .i64 0, .int .i64 0] rfl).put 2 (zD rfl) (.int .i64 r11.1.2.2.1) [.int .i64 r11.1.1, .int .i64 r11.1.2.1, .int .i64 r11.1.2.2.1, .int .i64 0] rfl) 2 (zD rfl)
  have d3 := Arr.c ((((B2_11.put 0 (zD rfl) (.int .i64 r11.1.1) [.int .i64 r11.1.1, .int .i64 0, .int .i64 0, .int .i64 0] rfl).put 1 (zD rfl) (.int .i64 r11.1.2.1) [.int .i64 r11.1.1, .int .i64 r11.1.2.1, .int .i64 0, .int .i64 0] rfl).put 2 (zD rfl) (.int .i64 r11.1.2.2.1) [.int .i64 r11.1.1, .int .i64 r11.1.2.1, .int .i64 r11.1.2.2.1, .int .i64 0] rfl).put 3 (zD rfl) (.int .i64 r11.1.2.2.2) [.int .i64 r11.1.1, .int .i64 r11.1.2.1, .int .i64 r11.1.2.2.1, .int .i64 r11.1.2.2.2] rfl) 3 (zD rfl)
  refine bodyPost_ret (v := .agg #[.int .i64 r11.1.1, .int .i64 r11.1.2.1, .int .i64 r11.1.2.2.1, .int .i64 r11.1.2.2.2]) (by simp [results, Tryz.results30, go_sem, d0, d1, d2, d3]) rfl ?_
  have hs : xMulS bad p q = (r11.1, r11.2) := by unfold xMulS; simp only [E3.out, E4.out, E5.out, E6.out, E7.out, E8.out, E9.out, E10.out, E11.out]
  rw [hs]
  exact ⟨rfl, ((((f11.new (w.heap.size + 1 + 1) 0 (by omega) (.int .i64 r11.1.1)).new (w.heap.size + 1 + 1) 1 (by omega) (.int .i64 r11.1.2.1)).new (w.heap.size + 1 + 1) 2 (by omega) (.int .i64 r11.1.2.2.1)).new (w.heap.size + 1 + 1) 3 (by omega) (.int .i64 r11.1.2.2.2)), ((((K11.new _ _ (by omega) _).new _ _ (by omega) _).new _ _ (by omega) _).new _ _ (by omega) _)⟩
 refine wp_region_held_drew (S := fun w' => Arr w3.heap.size [.int .i64 r3.1.1, .int .i64 r3.1.2.1, .int .i64 r3.1.2.2] w' ∧ Arr w4.heap.size [.int .i64 r4.1.1, .int .i64 r4.1.2.1, .int .i64 r4.1.2.2] w' ∧ Arr w5.heap.size [.int .i64 r5.1.1, .int .i64 r5.1.2.1, .int .i64 r5.1.2.2] w') (by kernel_rfl) ⟨(B5_5.alloc _).drew, (B6_5.alloc _).drew, (Arr_at _ _ [.int .i64 r5.1.1, .int .i64 r5.1.2.1, .int .i64 r5.1.2.2] _ (by simp)).drew⟩ (fun zH => ?_)
 refine zT 0 rfl (by kernel_rfl) (fun _ _ _ => id) rfl (fun _ _ => by go_simp <;> with_reducible rfl) zH ?_
 simp only [Act.put, zA, zB, zC]
 refine zT 1 rfl (by kernel_rfl) (fun _ _ _ => id) rfl (fun _ _ => by go_simp <;> with_reducible rfl) zH ?_
 simp only [Act.put, zA, zB, zC]
 refine zT 2 rfl (by kernel_rfl) (fun _ _ _ => id) rfl (fun wx hS => by have hc0 : wx.cell? ⟨w3.heap.size, 0, none⟩ = some (.int .i64 r3.1.1) := hS.1.c 0 (zD rfl); have hc1 : wx.cell? ⟨w3.heap.size, 1, none⟩ = some (.int .i64 r3.1.2.1) := hS.1.c 1 (zD rfl); have hc2 : wx.cell? ⟨w3.heap.size, 2, none⟩ = some (.int .i64 r3.1.2.2) := hS.1.c 2 (zD rfl); go_simp <;> with_reducible rfl) zH ?_
 simp only [Act.put, zA, zB, zC]
 refine zT 3 rfl (by kernel_rfl) (fun _ _ _ => id) rfl (fun wx hS => by have hc0 : wx.cell? ⟨w4.heap.size, 0, none⟩ = some (.int .i64 r4.1.1) := hS.2.1.c 0 (zD rfl); have hc1 : wx.cell? ⟨w4.heap.size, 1, none⟩ = some (.int .i64 r4.1.2.1) := hS.2.1.c 1 (zD rfl); have hc2 : wx.cell? ⟨w4.heap.size, 2, none⟩ = some (.int .i64 r4.1.2.2) := hS.2.1.c 2 (zD rfl); go_simp <;> with_reducible rfl) zH ?_
 simp only [Act.put, zA, zB, zC]
 refine zT 5 rfl (by kernel_rfl) (fun _ _ _ => id) rfl (fun wx hS => by have hc0 : wx.cell? ⟨w5.heap.size, 0, none⟩ = some (.int .i64 r5.1.1) := hS.2.2.c 0 (zD rfl); have hc1 : wx.cell? ⟨w5.heap.size, 1, none⟩ = some (.int .i64 r5.1.2.1) := hS.2.2.c 1 (zD rfl); have hc2 : wx.cell? ⟨w5.heap.size, 2, none⟩ = some (.int .i64 r5.1.2.2) := hS.2.2.c 2 (zD rfl); go_simp <;> with_reducible rfl) zH ?_
 simp only [Act.put, zA, zB, zC]
 refine call_at2 (i0 := 4) (i1 := 7) (by kernel_rfl) rfl rfl (fun K hK => ?_) (fun K hK => ?_)
 ·go_simp
  refine (uAdd_any b r5.2 r3.1 r4.1 _ (f5.alloc _).drew).mono ?_
  rintro e w6 ⟨rfl, f6, k6⟩
  generalize e6 : uAddS r5.2 r3.1 r4.1 = r6 at f6 ⊢
  have E6 : Hid _ := e6
  clear e6
  have K6 : Kept b w w6 := Kept.trans (K5.al _).drew k6
  have B0_6 := (B0_5.alloc _).drew.kept k6 (by omega)
  have B1_6 := (B1_5.alloc _).drew.kept k6 (by omega)
  have B2_6 := (B2_5.alloc _).drew.kept k6 (by omega)
  have B3_6 := (B3_5.alloc _).drew.kept k6 (by omega)
  have B4_6 := (B4_5.alloc _).drew.kept k6 (by omega)
  have B5_6 := (B5_5.alloc _).drew.kept k6 (by omega)
  have B6_6 := (B6_5.alloc _).drew.kept k6 (by omega)
  have B7_6 : Arr w5.heap.size [.int .i64 r5.1.1, .int .i64 r5.1.2.1, .int .i64 r5.1.2.2] w6 := (Arr_at _ _ [.int .i64 r5.1.1, .int .i64 r5.1.2.1, .int .i64 r5.1.2.2] _ (by simp)).drew.kept k6 (by omega)
  have z6 := B7_6.lies
  clear zH
  refine hK.out _ _ ⟨B5_6, B6_6, B7_6⟩ (fun zH => ?_)
  clear hK K K5 f5 B0_5 B1_5 B2_5 B3_5 B4_5 B5_5 B6_5 k6
  refine call_at2 (i0 := 6) (i1 := 7) (by kernel_rfl) rfl rfl (fun K hK => ?_) (fun K hK => ?_)
  ·go_simp
   refine (uAdd_any b r6.2 r6.1 r5.1 _ f6).mono ?_
   rintro e w7 ⟨rfl, f7, k7⟩
   generalize e7 : uAddS r6.2 r6.1 r5.1 = r7 at f7 ⊢
   have E7 : Hid _ := e7
   clear e7
   have K7 := Kept.trans K6 k7
   have B0_7 := B0_6.kept k7 (by omega)
   have B1_7 := B1_6.kept k7 (by omega)
   have B2_7 := B2_6.kept k7 (by omega)
   have B3_7 := B3_6.kept k7 (by omega)
   have B4_7 := B4_6.kept k7 (by omega)
   have B5_7 := B5_6.kept k7 (by omega)
   have B6_7 := B6_6.kept k7 (by omega)
   have B7_7 := B7_6.kept k7 (by omega)
   have z7 := B7_7.lies
   clear zH
   refine hK.out _ _ ⟨B5_7, B6_7, B7_7⟩ (fun zH => ?_)
   clear hK K K6 f6 B0_6 B1_6 B2_6 B3_6 B4_6 B5_6 B6_6 B7_6 k7
   refine zK 7 (by kernel_rfl) rfl (fun K hK => ?_)
   go_simp
   clear zH
   refine hK.out _ _ ⟨(B5_7.alloc _), (B6_7.alloc _), (B7_7.alloc _)⟩ (fun zH => ?_)
   clear hK K
   refine zK 8 (by kernel_rfl) rfl (fun K hK => ?_)
   go_simp
   clear zH
   refine hK.out _ _ ⟨(B5_7.alloc _), (B6_7.alloc _), (B7_7.alloc _)⟩ (fun zH => ?_)
   clear hK K
   refine wpAnyH_done (by kernel_rfl) ?_ _
   clear zH
   exact cont1 _ _ _ _ _ _ _ _ _ _ _ _ _ _ _ _ _ _ _ _ _ _ _ _ _ _ _ _ _ _ w7.heap.size r6 r7 E6 E7 (K7.al _) (f7.alloc _) (B0_7.alloc _) (B1_7.alloc _) (B2_7.alloc _) (B3_7.alloc _) (B4_7.alloc _) (B5_7.alloc _) (B6_7.alloc _) (B7_7.alloc _) (Arr_at _ _ [.int .i64 r7.1.1, .int .i64 r7.1.2.1, .int .i64 r7.1.2.2] _ (by simp)) (by omega) (by omega) (by omega) (by omega) (by omega) (by omega) (by omega) (by omega) (by omega) (by omega)
  ·go_simp
   clear zH
   refine hK.out _ _ ⟨(B5_6.alloc _), (B6_6.alloc _), (B7_6.alloc _)⟩ (fun zH => ?_)
   clear hK K
   refine zK 6 (by kernel_rfl) rfl (fun K hK => ?_)
   go_simp
   refine (uAdd_any b r6.2 r6.1 r5.1 _ (f6.alloc _)).mono ?_
   rintro e w7 ⟨rfl, f7, k7⟩
   generalize e7 : uAddS r6.2 r6.1 r5.1 = r7 at f7 ⊢
   have E7 : Hid _ := e7
   clear e7
   have K7 : Kept b w w7 := Kept.trans (K6.al _) k7
   have B0_7 := (B0_6.alloc _).kept k7 (by omega)
   have B1_7 := (B1_6.alloc _).kept k7 (by omega)
   have B2_7 := (B2_6.alloc _).kept k7 (by omega)
   have B3_7 := (B3_6.alloc _).kept k7 (by omega)
   have B4_7 := (B4_6.alloc _).kept k7 (by omega)
   have B5_7 := (B5_6.alloc _).kept k7 (by omega)
   have B6_7 := (B6_6.alloc _).kept k7 (by omega)
   have B7_7 := (B7_6.alloc _).kept k7 (by omega)
   have B8_7 : Arr w6.heap.size [.int .i64 0, .int .i64 0, .int .i64 0] w7 := (Arr_at _ _ [.int .i64 0, .int .i64 0, .int .i64 0] _ (by simp)).kept k7 (by omega)
   have z7 := B8_7.lies
   clear zH
   refine hK.out _ _ ⟨B5_7, B6_7, B7_7⟩ (fun zH => ?_)
   clear hK K K6 f6 B0_6 B1_6 B2_6 B3_6 B4_6 B5_6 B6_6 B7_6 k7
   refine zK 8 (by kernel_rfl) rfl (fun K hK => ?_)
   have c8_B8_0 : w7.cell? ⟨w6.heap.size, 0, none⟩ = some (.int .i64 0) := B8_7.c 0 (zD rfl)
   have c8_B8_1 : w7.cell? ⟨w6.heap.size, 1, none⟩ = some (.int .i64 0) := B8_7.c 1 (zD rfl)
   have c8_B8_2 : w7.cell? ⟨w6.heap.size, 2, none⟩ = some (.int .i64 0) := B8_7.c 2 (zD rfl)
   have g8_B8_0 := B8_7.f 0 (zD rfl)
   have g8_B8_1 := B8_7.f 1 (zD rfl)
   have g8_B8_2 := B8_7.f 2 (zD rfl)
   go_simp
   clear zH
   refine hK.out _ _ ⟨(((B5_7.new w6.heap.size 0 (by omega) (.int .i64 r7.1.1)).new w6.heap.size 1 (by omega) (.int .i64 r7.1.2.1)).new w6.heap.size 2 (by omega) (.int .i64 r7.1.2.2)), (((B6_7.new w6.heap.size 0 (by omega) (.int .i64 r7.1.1)).new w6.heap.size 1 (by omega) (.int .i64 r7.1.2.1)).new w6.heap.size 2 (by omega) (.int .i64 r7.1.2.2)), (((B7_7.new w6.heap.size 0 (by omega) (.int .i64 r7.1.1)).new w6.heap.size 1 (by omega) (.int .i64 r7.1.2.1)).new w6.heap.size 2 (by omega) (.int .i64 r7.1.2.2))⟩ (fun zH => ?_)
   clear hK K c8_B8_0 c8_B8_1 c8_B8_2 g8_B8_0 g8_B8_1 g8_B8_2
   refine wpAnyH_done (by kernel_rfl) ?_ _
   clear zH
   exact cont1 _ _ _ _ _ _ _ _ _ _ _ _ _ _ _ _ _ _ _ _ _ _ _ _ _ _ _ _ _ _ w6.heap.size r6 r7 E6 E7 (((K7.new _ _ (by omega) _).new _ _ (by omega) _).new _ _ (by omega) _) (((f7.new w6.heap.size 0 (by omega) (.int .i64 r7.1.1)).new w6.heap.size 1 (by omega) (.int .i64 r7.1.2.1)).new w6.heap.size 2 (by omega) (.int .i64 r7.1.2.2)) (((B0_7.new w6.heap.size 0 (by omega) (.int .i64 r7.1.1)).new w6.heap.size 1 (by omega) (.int .i64 r7.1.2.1)).new w6.heap.size 2 (by omega) (.int .i64 r7.1.2.2)) (((B1_7.new w6.heap.size 0 (by omega) (.int .i64 r7.1.1)).new w6.heap.size 1 (by omega) (.int .i64 r7.1.2.1)).new w6.heap.size 2 (by omega) (.int .i64 r7.1.2.2)) (((B2_7.new w6.heap.size 0 (by omega) (.int .i64 r7.1.1)).new w6.heap.size 1 (by omega) (.int .i64 r7.1.2.1)).new w6.heap.size 2 (by omega) (.int .i64 r7.1.2.2)) (((B3_7.new w6.heap.size 0 (by omega) (.int .i64 r7.1.1)).new w6.heap.size 1 (by omega) (.int .i64 r7.1.2.1)).new w6.heap.size 2 (by omega) (.int .i64 r7.1.2.2)) (((B4_7.new w6.heap.size 0 (by omega) (.int .i64 r7.1.1)).new w6.heap.size 1 (by omega) (.int .i64 r7.1.2.1)).new w6.heap.size 2 (by omega) (.int .i64 r7.1.2.2)) (((B5_7.new w6.heap.size 0 (by omega) (.int .i64 r7.1.1)).new w6.heap.size 1 (by omega) (.int .i64 r7.1.2.1)).new w6.heap.size 2 (by omega) (.int .i64 r7.1.2.2)) (((B6_7.new w6.heap.size 0 (by omega) (.int .i64 r7.1.1)).new w6.heap.size 1 (by omega) (.int .i64 r7.1.2.1)).new w6.heap.size 2 (by omega) (.int .i64 r7.1.2.2)) (((B7_7.new w6.heap.size 0 (by omega) (.int .i64 r7.1.1)).new w6.heap.size 1 (by omega) (.int .i64 r7.1.2.1)).new w6.heap.size 2 (by omega) (.int .i64 r7.1.2.2)) (((B8_7.put 0 (zD rfl) (.int .i64 r7.1.1) [.int .i64 r7.1.1, .int .i64 0, .int .i64 0] rfl).put 1 (zD rfl) (.int .i64 r7.1.2.1) [.int .i64 r7.1.1, .int .i64 r7.1.2.1, .int .i64 0] rfl).put 2 (zD rfl) (.int .i64 r7.1.2.2) [.int .i64 r7.1.1, .int .i64 r7.1.2.1, .int .i64 r7.1.2.2] rfl) (by omega) (by omega) (by omega) (by omega) (by omega) (by omega) (by omega) (by omega) (by omega) (by omega)
 ·go_simp
  clear zH
  refine hK.out _ _ ⟨((B5_5.alloc _).drew.alloc _), ((B6_5.alloc _).drew.alloc _), ((Arr_at _ _ [.int .i64 r5.1.1, .int .i64 r5.1.2.1, .int .i64 r5.1.2.2] _ (by simp)).drew.alloc _)⟩ (fun zH => ?_)
  clear hK K
  refine zK 4 (by kernel_rfl) rfl (fun K hK => ?_)
  go_simp
  refine (uAdd_any b r5.2 r3.1 r4.1 _ ((f5.alloc _).drew.alloc _)).mono ?_
  rintro e w6 ⟨rfl, f6, k6⟩
  generalize e6 : uAddS r5.2 r3.1 r4.1 = r6 at f6 ⊢
  have E6 : Hid _ := e6
  clear e6
  have K6 : Kept b w w6 := Kept.trans ((K5.al _).drew.al _) k6
  have B0_6 := ((B0_5.alloc _).drew.alloc _).kept k6 (by omega)
  have B1_6 := ((B1_5.alloc _).drew.alloc _).kept k6 (by omega)
  have B2_6 := ((B2_5.alloc _).drew.alloc _).kept k6 (by omega)
  have B3_6 := ((B3_5.alloc _).drew.alloc _).kept k6 (by omega)
  have B4_6 := ((B4_5.alloc _).drew.alloc _).kept k6 (by omega)
  have B5_6 := ((B5_5.alloc _).drew.alloc _).kept k6 (by omega)
  have B6_6 := ((B6_5.alloc _).drew.alloc _).kept k6 (by omega)
  have B7_6 : Arr w5.heap.size [.int .i64 r5.1.1, .int .i64 r5.1.2.1, .int .i64 r5.1.2.2] w6 := ((Arr_at _ _ [.int .i64 r5.1.1, .int .i64 r5.1.2.1, .int .i64 r5.1.2.2] _ (by simp)).drew.alloc _).kept k6 (by omega)
  have B8_6 : Arr (w5.heap.size + 1) [.int .i64 0, .int .i64 0, .int .i64 0] w6 := (Arr_at _ _ [.int .i64 0, .int .i64 0, .int .i64 0] _ (by simp)).kept k6 (by omega)
  have z6 := B8_6.lies
  clear zH
  refine hK.out _ _ ⟨B5_6, B6_6, B7_6⟩ (fun zH => ?_)
  clear hK K K5 f5 B0_5 B1_5 B2_5 B3_5 B4_5 B5_5 B6_5 k6
  refine zK 6 (by kernel_rfl) rfl (fun K hK => ?_)
  go_simp
  refine (uAdd_any b r6.2 r6.1 r5.1 _ f6).mono ?_
  rintro e w7 ⟨rfl, f7, k7⟩
  generalize e7 : uAddS r6.2 r6.1 r5.1 = r7 at f7 ⊢
  have E7 : Hid _ := e7
  clear e7
  have K7 := Kept.trans K6 k7
  have B0_7 := B0_6.kept k7 (by omega)
  have B1_7 := B1_6.kept k7 (by omega)
  have B2_7 := B2_6.kept k7 (by omega)
  have B3_7 := B3_6.kept k7 (by omega)
  have B4_7 := B4_6.kept k7 (by omega)
  have B5_7 := B5_6.kept k7 (by omega)
  have B6_7 := B6_6.kept k7 (by omega)
  have B7_7 := B7_6.kept k7 (by omega)
  have B8_7 := B8_6.kept k7 (by omega)
  have z7 := B8_7.lies
  clear zH
  refine hK.out _ _ ⟨B5_7, B6_7, B7_7⟩ (fun zH => ?_)
  clear hK K K6 f6 B0_6 B1_6 B2_6 B3_6 B4_6 B5_6 B6_6 B7_6 B8_6 k7
  refine zK 8 (by kernel_rfl) rfl (fun K hK => ?_)
  have c8_B8_0 : w7.cell? ⟨w5.heap.size + 1, 0, none⟩ = some (.int .i64 0) := B8_7.c 0 (zD rfl)
  have c8_B8_1 : w7.cell? ⟨w5.heap.size + 1, 1, none⟩ = some (.int .i64 0) := B8_7.c 1 (zD rfl)
  have c8_B8_2 : w7.cell? ⟨w5.heap.size + 1, 2, none⟩ = some (.int .i64 0) := B8_7.c 2 (zD rfl)
  have g8_B8_0 := B8_7.f 0 (zD rfl)
  have g8_B8_1 := B8_7.f 1 (zD rfl)
  have g8_B8_2 := B8_7.f 2 (zD rfl)
  go_simp
  clear zH
  refine hK.out _ _ ⟨(((B5_7.new (w5.heap.size + 1) 0 (by omega) (.int .i64 r7.1.1)).new (w5.heap.size + 1) 1 (by omega) (.int .i64 r7.1.2.1)).new (w5.heap.size + 1) 2 (by omega) (.int .i64 r7.1.2.2)), (((B6_7.new (w5.heap.size + 1) 0 (by omega) (.int .i64 r7.1.1)).new (w5.heap.size + 1) 1 (by omega) (.int .i64 r7.1.2.1)).new (w5.heap.size + 1) 2 (by omega) (.int .i64 r7.1.2.2)), (((B7_7.new (w5.heap.size + 1) 0 (by omega) (.int .i64 r7.1.1)).new (w5.heap.size + 1) 1 (by omega) (.int .i64 r7.1.2.1)).new (w5.heap.size + 1) 2 (by omega) (.int .i64 r7.1.2.2))⟩ (fun zH => ?_)
  clear hK K c8_B8_0 c8_B8_1 c8_B8_2 g8_B8_0 g8_B8_1 g8_B8_2
  refine wpAnyH_done (by kernel_rfl) ?_ _
  clear zH
  exact cont1 _ _ _ _ _ _ _ _ _ _ _ _ _ _ _ _ _ _ _ _ _ _ _ _ _ _ _ _ _ _ (w5.heap.size + 1) r6 r7 E6 E7 (((K7.new _ _ (by omega) _).new _ _ (by omega) _).new _ _ (by omega) _) (((f7.new (w5.heap.size + 1) 0 (by omega) (.int .i64 r7.1.1)).new (w5.heap.size + 1) 1 (by omega) (.int .i64 r7.1.2.1)).new (w5.heap.size + 1) 2 (by omega) (.int .i64 r7.1.2.2)) (((B0_7.new (w5.heap.size + 1) 0 (by omega) (.int .i64 r7.1.1)).new (w5.heap.size + 1) 1 (by omega) (.int .i64 r7.1.2.1)).new (w5.heap.size + 1) 2 (by omega) (.int .i64 r7.1.2.2)) (((B1_7.new (w5.heap.size + 1) 0 (by omega) (.int .i64 r7.1.1)).new (w5.heap.size + 1) 1 (by omega) (.int .i64 r7.1.2.1)).new (w5.heap.size + 1) 2 (by omega) (.int .i64 r7.1.2.2)) (((B2_7.new (w5.heap.size + 1) 0 (by omega) (.int .i64 r7.1.1)).new (w5.heap.size + 1) 1 (by omega) (.int .i64 r7.1.2.1)).new (w5.heap.size + 1) 2 (by omega) (.int .i64 r7.1.2.2)) (((B3_7.new (w5.heap.size + 1) 0 (by omega) (.int .i64 r7.1.1)).new (w5.heap.size + 1) 1 (by omega) (.int .i64 r7.1.2.1)).new (w5.heap.size + 1) 2 (by omega) (.int .i64 r7.1.2.2)) (((B4_7.new (w5.heap.size + 1) 0 (by omega) (.int .i64 r7.1.1)).new (w5.heap.size + 1) 1 (by omega) (.int .i64 r7.1.2.1)).new (w5.heap.size + 1) 2 (by omega) (.int .i64 r7.1.2.2)) (((B5_7.new (w5.heap.size + 1) 0 (by omega) (.int .i64 r7.1.1)).new (w5.heap.size + 1) 1 (by omega) (.int .i64 r7.1.2.1)).new (w5.heap.size + 1) 2 (by omega) (.int .i64 r7.1.2.2)) (((B6_7.new (w5.heap.size + 1) 0 (by omega) (.int .i64 r7.1.1)).new (w5.heap.size + 1) 1 (by omega) (.int .i64 r7.1.2.1)).new (w5.heap.size + 1) 2 (by omega) (.int .i64 r7.1.2.2)) (((B7_7.new (w5.heap.size + 1) 0 (by omega) (.int .i64 r7.1.1)).new (w5.heap.size + 1) 1 (by omega) (.int .i64 r7.1.2.1)).new (w5.heap.size + 1) 2 (by omega) (.int .i64 r7.1.2.2)) (((B8_7.put 0 (zD rfl) (.int .i64 r7.1.1) [.int .i64 r7.1.1, .int .i64 0, .int .i64 0] rfl).put 1 (zD rfl) (.int .i64 r7.1.2.1) [.int .i64 r7.1.1, .int .i64 r7.1.2.1, .int .i64 0] rfl).put 2 (zD rfl) (.int .i64 r7.1.2.2) [.int .i64 r7.1.1, .int .i64 r7.1.2.1, .int .i64 r7.1.2.2] rfl) (by omega) (by omega) (by omega) (by omega) (by omega) (by omega) (by omega) (by omega) (by omega) (by omega)
end Go.Proofs.YtpjobkbefgehjaaGreat
namespace Go.Proofs.YtpjobkbefgehjaaGreat
open Go.RowKit
set_option maxRecDepth 100000
set_option maxHeartbeats 20000000
theorem xUnit_any (b : Nat) (bad : Bool) (q : V4) (w : World) (hw : Fl b bad w) :
  Calls Tryz.prog 33 #[.pointer (some ⟨b, 0, none⟩), .agg #[.int .i64 q.1, .int .i64 q.2.1, .int .i64 q.2.2.1, .int .i64 q.2.2.2]] w fun e w' => e = .returned (.agg #[.int .i64 ((xUnitS bad q).1.1), .int .i64 ((xUnitS bad q).1.2.1), .int .i64 ((xUnitS bad q).1.2.2.1), .int .i64 ((xUnitS bad q).1.2.2.2)]) ∧ Fl b (xUnitS bad q).2 w' ∧ Kept b w w' := by
 have hl := hw.lies
 go_enter Tryz.func33, Tryz.ntmps33
 go_wp2_with fail
 refine wp_region_held_drew (S := fun w' => Arr w.heap.size [.int .i64 q.1, .int .i64 q.2.1, .int .i64 q.2.2.1, .int .i64 q.2.2.2] w') (by kernel_rfl) ((Arr_at _ _ [.int .i64 q.1, .int .i64 q.2.1, .int .i64 q.2.2.1, .int .i64 q.2.2.2] _ (by simp)).alloc _).drew (fun zH => ?_)
 refine zT 0 rfl (by kernel_rfl) (fun _ _ _ => id) rfl (fun _ _ => by go_simp <;> with_reducible rfl) zH ?_
 simp only [Act.put, zA, zB, zC]
 refine zT 1 rfl (by kernel_rfl) (fun _ _ _ => id) rfl (fun _ _ => by go_simp <;> with_reducible rfl) zH ?_
 simp only [Act.put, zA, zB, zC]
 refine zT 2 rfl (by kernel_rfl) (fun _ _ _ => id) rfl (fun _ _ => by go_simp <;> with_reducible rfl) zH ?_
 simp only [Act.put, zA, zB, zC]
 refine zT 3 rfl (by kernel_rfl) (fun _ _ _ => id) rfl (fun wx hS => by have hc0 : wx.cell? ⟨w.heap.size, 0, none⟩ = some (.int .i64 q.1) := hS.c 0 (zD rfl); go_simp <;> with_reducible rfl) zH ?_
 simp only [Act.put, zA, zB, zC]
 refine zT 4 rfl (by kernel_rfl) (fun _ _ _ => id) rfl (fun _ _ => by go_simp <;> with_reducible rfl) zH ?_
 simp only [Act.put, zA, zB, zC]
 refine zT 5 rfl (by kernel_rfl) (fun _ _ _ => id) rfl (fun wx hS => by have hc1 : wx.cell? ⟨w.heap.size, 1, none⟩ = some (.int .i64 q.2.1) := hS.c 1 (zD rfl); go_simp <;> with_reducible rfl) zH ?_
 simp only [Act.put, zA, zB, zC]
 refine zT 6 rfl (by kernel_rfl) (fun _ _ _ => id) rfl (fun _ _ => by go_simp <;> with_reducible rfl) zH ?_
 simp only [Act.put, zA, zB, zC]
 refine zT 7 rfl (by kernel_rfl) (fun _ _ _ => id) rfl (fun wx hS => by have hc2 : wx.cell? ⟨w.heap.size, 2, none⟩ = some (.int .i64 q.2.2.1) := hS.c 2 (zD rfl); go_simp <;> with_reducible rfl) zH ?_
 simp only [Act.put, zA, zB, zC]
 refine zT 9 rfl (by kernel_rfl) (fun _ _ _ => id) rfl (fun _ _ => by go_simp <;> with_reducible rfl) zH ?_
 simp only [Act.put, zA, zB, zC]
 refine zT 10 rfl (by kernel_rfl) (fun _ _ _ => id) rfl (fun wx hS => by have hc3 : wx.cell? ⟨w.heap.size, 3, none⟩ = some (.int .i64 q.2.2.2) := hS.c 3 (zD rfl); go_simp <;> with_reducible rfl) zH ?_
 simp only [Act.put, zA, zB, zC]
 refine zK 8 (by kernel_rfl) rfl (fun K hK => ?_)
 go_simp
 refine (rNorm_any b bad q.1 q.2.1 q.2.2.1 _ ((hw.alloc _).alloc _).drew).mono ?_
 rintro e w1 ⟨rfl, f1, k1⟩
 generalize e1 : normS bad q.1 q.2.1 q.2.2.1 = r1 at f1 ⊢
 have E1 : Hid _ := e1
 clear e1
 have K1 : Kept b w w1 := Kept.trans (((Kept.refl b w).al _).al _).drew k1
 have B0_1 : Arr w.heap.size [.int .i64 q.1, .int .i64 q.2.1, .int .i64 q.2.2.1, .int .i64 q.2.2.2] w1 := ((Arr_at _ _ [.int .i64 q.1, .int .i64 q.2.1, .int .i64 q.2.2.1, .int .i64 q.2.2.2] _ (by simp)).alloc _).drew.kept k1 (by omega)
 have B1_1 : Arr (w.heap.size + 1) [.int .i64 0, .int .i64 0, .int .i64 0, .int .i64 0] w1 := (Arr_at _ _ [.int .i64 0, .int .i64 0, .int .i64 0, .int .i64 0] _ (by simp)).drew.kept k1 (by omega)
 have z1 := B1_1.lies
 clear zH
 refine hK.out _ _ B0_1 (fun zH => ?_)
 clear hK K k1
 refine zK 11 (by kernel_rfl) rfl (fun K hK => ?_)
 go_simp
 refine (rNorm_any b r1.2 r1.1 q.2.2.2 0 _ f1).mono ?_
 rintro e w2 ⟨rfl, f2, k2⟩
 generalize e2 : normS r1.2 r1.1 q.2.2.2 0 = r2 at f2 ⊢
 have E2 : Hid _ := e2
 clear e2
 have K2 := Kept.trans K1 k2
 have B0_2 := B0_1.kept k2 (by omega)
 have B1_2 := B1_1.kept k2 (by omega)
 have z2 := B1_2.lies
 clear zH
 refine hK.out _ _ B0_2 (fun zH => ?_)
 clear hK K K1 f1 B0_1 B1_1 k2
 refine zT 12 rfl (by kernel_rfl) (fun _ _ _ => id) rfl (fun _ _ => by go_simp <;> with_reducible rfl) zH ?_
 simp only [Act.put, zA, zB, zC]
 refine wpAnyH_done (by kernel_rfl) ?_ _
 clear zH
 by_cases hc1 : r2.1 < 549755813888
 ·have Hhc1 : Hid (r2.1 < 549755813888) := hc1
  go_wp2_with fail
  refine (rFail_any b r2.2  _ f2).mono ?_
  rintro e w3 ⟨rfl, f3, k3⟩
  have K3 := Kept.trans K2 k3
  have B0_3 := B0_2.kept k3 (by omega)
  have B1_3 := B1_2.kept k3 (by omega)
  have z3 := B1_3.lies
  clear K2 f2 B0_2 B1_2 k3
  go_wp2_with fail
  refine wp_loop_rounds 5 ?_
  rw [rounds_succ]
  have c4_B0_0 : w3.cell? ⟨w.heap.size, 0, none⟩ = some (.int .i64 q.1) := B0_3.c 0 (zD rfl)
  go_wp2_with fail
  refine (rDiv_any b true q.1 r2.1 _ f3).mono ?_
  rintro e w4 ⟨rfl, f4, k4⟩
  rw [divS_true] at f4 ⊢
  dsimp only at f4 ⊢
  have K4 := Kept.trans K3 k4
  have B0_4 := B0_3.kept k4 (by omega)
  have B1_4 := B1_3.kept k4 (by omega)
  have z4 := B1_4.lies
  clear c4_B0_0 K3 f3 B0_3 B1_3 k4
  have c5_B0_0 : w4.cell? ⟨w.heap.size, 0, none⟩ = some (.int .i64 q.1) := B0_4.c 0 (zD rfl)
  have g5_B0_0 := B0_4.f 0 (zD rfl)
  go_wp2_with fail
  clear c5_B0_0 g5_B0_0
  refine rounds_letter (S := fun w' => Kept b w w' ∧ Fl b true w' ∧ Arr w.heap.size [.int .i64 0, .int .i64 q.2.1, .int .i64 q.2.2.1, .int .i64 q.2.2.2] w' ∧ Arr (w.heap.size + 1) [.int .i64 0, .int .i64 0, .int .i64 0, .int .i64 0] w') ⟨(K4.new _ _ (by omega) _), (f4.new w.heap.size 0 (by omega) (.int .i64 0)), (B0_4.put 0 (zD rfl) (.int .i64 0) [.int .i64 0, .int .i64 q.2.1, .int .i64 q.2.2.1, .int .i64 q.2.2.2] rfl), (B1_4.new w.heap.size 0 (by omega) (.int .i64 0))⟩ ?_
  rintro w5 ⟨K5, BF_5, B0_5, B1_5⟩
  have z5 := B1_5.lies
  clear K4 f4 B0_4 B1_4
  rw [rounds_succ]
  have c6_B0_1 : w5.cell? ⟨w.heap.size, 1, none⟩ = some (.int .i64 q.2.1) := B0_5.c 1 (zD rfl)
  go_wp2_with fail
  refine (rDiv_any b true q.2.1 r2.1 _ BF_5).mono ?_
  rintro e w6 ⟨rfl, f6, k6⟩
  rw [divS_true] at f6 ⊢
  dsimp only at f6 ⊢
  have K6 := Kept.trans K5 k6
  have B0_6 := B0_5.kept k6 (by omega)
  have B1_6 := B1_5.kept k6 (by omega)
  have z6 := B1_6.lies
  clear c6_B0_1 K5 BF_5 B0_5 B1_5 k6
  have c7_B0_1 : w6.cell? ⟨w.heap.size, 1, none⟩ = some (.int .i64 q.2.1) := B0_6.c 1 (zD rfl)
  have g7_B0_1 := B0_6.f 1 (zD rfl)
  go_wp2_with fail
  clear c7_B0_1 g7_B0_1
  refine rounds_letter (S := fun w' => Kept b w w' ∧ Fl b true w' ∧ Arr w.heap.size [.int .i64 0, .int .i64 0, .int .i64 q.2.2.1, .int .i64 q.2.2.2] w' ∧ Arr (w.heap.size + 1) [.int .i64 0, .int .i64 0, .int .i64 0, .int .i64 0] w') ⟨(K6.new _ _ (by omega) _), (f6.new w.heap.size 1 (by omega) (.int .i64 0)), (B0_6.put 1 (zD rfl) (.int .i64 0) [.int .i64 0, .int .i64 0, .int .i64 q.2.2.1, .int .i64 q.2.2.2] rfl), (B1_6.new w.heap.size 1 (by omega) (.int .i64 0))⟩ ?_
  rintro w7 ⟨K7, BF_7, B0_7, B1_7⟩
  have z7 := B1_7.lies
  clear K6 f6 B0_6 B1_6
  rw [rounds_succ]
  have c8_B0_2 : w7.cell? ⟨w.heap.size, 2, none⟩ = some (.int .i64 q.2.2.1) := B0_7.c 2 (zD rfl)
  go_wp2_with fail
  refine (rDiv_any b true q.2.2.1 r2.1 _ BF_7).mono ?_
  rintro e w8 ⟨rfl, f8, k8⟩
  rw [divS_true] at f8 ⊢
  dsimp only at f8 ⊢
  have K8 := Kept.trans K7 k8
  have B0_8 := B0_7.kept k8 (by omega)
  have B1_8 := B1_7.kept k8 (by omega)
  have z8 := B1_8.lies
  clear c8_B0_2 K7 BF_7 B0_7 B1_7 k8
  have c9_B0_2 : w8.cell? ⟨w.heap.size, 2, none⟩ = some (.int .i64 q.2.2.1) := B0_8.c 2 (zD rfl)
  have g9_B0_2 := B0_8.f 2 (zD rfl)
  go_wp2_with fail
  clear c9_B0_2 g9_B0_2
  refine rounds_letter (S := fun w' => Kept b w w' ∧ Fl b true w' ∧ Arr w.heap.size [.int .i64 0, .int .i64 0, .int .i64 0, .int .i64 q.2.2.2] w' ∧ Arr (w.heap.size + 1) [.int .i64 0, .int .i64 0, .int .i64 0, .int .i64 0] w') ⟨(K8.new _ _ (by omega) _), (f8.new w.heap.size 2 (by omega) (.int .i64 0)), (B0_8.put 2 (zD rfl) (.int .i64 0) [.int .i64 0, .int .i64 0, .int .i64 0, .int .i64 q.2.2.2] rfl), (B1_8.new w.heap.size 2 (by omega) (.int .i64 0))⟩ ?_
  rintro w9 ⟨K9, BF_9, B0_9, B1_9⟩
  have z9 := B1_9.lies
  clear K8 f8 B0_8 B1_8
  rw [rounds_succ]
  have c10_B0_3 : w9.cell? ⟨w.heap.size, 3, none⟩ = some (.int .i64 q.2.2.2) := B0_9.c 3 (zD rfl)
  go_wp2_with fail
  refine (rDiv_any b true q.2.2.2 r2.1 _ BF_9).mono ?_
  rintro e w10 ⟨rfl, f10, k10⟩
  rw [divS_true] at f10 ⊢
  dsimp only at f10 ⊢
  have K10 := Kept.trans K9 k10
  have B0_10 := B0_9.kept k10 (by omega)
  have B1_10 := B1_9.kept k10 (by omega)
  have z10 := B1_10.lies
  clear c10_B0_3 K9 BF_9 B0_9 B1_9 k10
  have c11_B0_3 : w10.cell? ⟨w.heap.size, 3, none⟩ = some (.int .i64 q.2.2.2) := B0_10.c 3 (zD rfl)
  have g11_B0_3 := B0_10.f 3 (zD rfl)
  go_wp2_with fail
  clear c11_B0_3 g11_B0_3
  refine rounds_letter (S := fun w' => Kept b w w' ∧ Fl b true w' ∧ Arr w.heap.size [.int .i64 0, .int .i64 0, .int .i64 0, .int .i64 0] w' ∧ Arr (w.heap.size + 1) [.int .i64 0, .int .i64 0, .int .i64 0, .int .i64 0] w') ⟨(K10.new _ _ (by omega) _), (f10.new w.heap.size 3 (by omega) (.int .i64 0)), (B0_10.put 3 (zD rfl) (.int .i64 0) [.int .i64 0, .int .i64 0, .int .i64 0, .int .i64 0] rfl), (B1_10.new w.heap.size 3 (by omega) (.int .i64 0))⟩ ?_
  rintro w11 ⟨K11, BF_11, B0_11, B1_11⟩
  have z11 := B1_11.lies
  clear K10 f10 B0_10 B1_10
  rw [rounds_succ]
  have c12_B1_0 : w11.cell? ⟨w.heap.size + 1, 0, none⟩ = some (.int .i64 0) := B1_11.c 0 (zD rfl)
  have c12_B1_1 : w11.cell? ⟨w.heap.size + 1, 1, none⟩ = some (.int .i64 0) := B1_11.c 1 (zD rfl)
  have c12_B1_2 : w11.cell? ⟨w.heap.size + 1, 2, none⟩ = some (.int .i64 0) := B1_11.c 2 (zD rfl)
  have c12_B1_3 : w11.cell? ⟨w.heap.size + 1, 3, none⟩ = some (.int .i64 0) := B1_11.c 3 (zD rfl)
  have c12_BF := BF_11.cell
  have g12_B1_0 := B1_11.f 0 (zD rfl)
  have g12_B1_1 := B1_11.f 1 (zD rfl)
  have g12_B1_2 := B1_11.f 2 (zD rfl)
  have g12_B1_3 := B1_11.f 3 (zD rfl)
  go_wp2
  clear c12_B1_0 c12_B1_1 c12_B1_2 c12_B1_3 c12_BF g12_B1_0 g12_B1_1 g12_B1_2 g12_B1_3
  have d0 := Arr.c (B1_11.put 0 (zD rfl) (.int .i64 0) [.int .i64 0, .int .i64 0, .int .i64 0, .int .i64 0] rfl) 0 (zD rfl)
  have d1 := Arr.c ((B1_11.put 0 (zD rfl) (.int .i64 0) [.int .i64 0, .int .i64 0, .int .i64 0, .int .i64 0] rfl).put 1 (zD rfl) (.int .i64 0) [.int .i64 0, .int .i64 0, .int .i64 0, .int .i64 0] rfl) 1 (zD rfl)
  have d2 := Arr.c (((B1_11.put 0 (zD rfl) (.int .i64 0) [.int .i64 0, .int .i64 0, .int .i64 0, .int .i64 0] rfl).put 1 (zD rfl) (.int .i64 0) [.int .i64 0, .int .i64 0, .int .i64 0, .int .i64 0] rfl).put 2 (zD rfl) (.int .i64 0) [.int .i64 0, .int .i64 0, .int .i64 0, .int .i64 0] rfl) 2 (zD rfl)
  have d3 := Arr.c ((((B1_11.put 0 (zD rfl) (.int .i64 0) [.int .i64 0, .int .i64 0, .int .i64 0, .int .i64 0] rfl).put 1 (zD rfl) (.int .i64 0) [.int .i64 0, .int .i64 0, .int .i64 0, .int .i64 0] rfl).put 2 (zD rfl) (.int .i64 0) [.int .i64 0, .int .i64 0, .int .i64 0, .int .i64 0] rfl).put 3 (zD rfl) (.int .i64 0) [.int .i64 0, .int .i64 0, .int .i64 0, .int .i64 0] rfl) 3 (zD rfl)
  refine bodyPost_ret (v := .agg #[.int .i64 0, .int .i64 0, .int .i64 0, .int .i64 0]) (by simp [results, Tryz.results33, go_sem, d0, d1, d2, d3]) rfl ?_
  have hs : xUnitS bad q = ((0, 0, 0, 0), true) := by unfold xUnitS; simp only [E1.out, E2.out]; rw [if_pos (by have := Hhc1.out; omega)]
  rw [hs]
  exact ⟨rfl, ((((BF_11.new (w.heap.size + 1) 0 (by omega) (.int .i64 0)).new (w.heap.size + 1) 1 (by omega) (.int .i64 0)).new (w.heap.size + 1) 2 (by omega) (.int .i64 0)).new (w.heap.size + 1) 3 (by omega) (.int .i64 0)), ((((K11.new _ _ (by omega) _).new _ _ (by omega) _).new _ _ (by omega) _).new _ _ (by omega) _)⟩
 ·have Hhc1 : Hid (¬ r2.1 < 549755813888) := hc1
  go_wp2_with fail
  refine wp_loop_rounds 5 ?_
  rw [rounds_succ]
  have c3_B0_0 : w2.cell? ⟨w.heap.size, 0, none⟩ = some (.int .i64 q.1) := B0_2.c 0 (zD rfl)
  go_wp2_with fail
  refine (rDiv_any b r2.2 q.1 r2.1 _ f2).mono ?_
  rintro e w3 ⟨rfl, f3, k3⟩
  generalize e3 : divS r2.2 q.1 r2.1 = r3 at f3 ⊢
  have E3 : Hid _ := e3
  clear e3
  have K3 := Kept.trans K2 k3
  have B0_3 := B0_2.kept k3 (by omega)
  have B1_3 := B1_2.kept k3 (by omega)
  have z3 := B1_3.lies
  clear c3_B0_0 K2 f2 B0_2 B1_2 k3
  have c4_B0_0 : w3.cell? ⟨w.heap.size, 0, none⟩ = some (.int .i64 q.1) := B0_3.c 0 (zD rfl)
  have g4_B0_0 := B0_3.f 0 (zD rfl)
  go_wp2_with fail
  clear c4_B0_0 g4_B0_0
  refine rounds_letter (S := fun w' => Kept b w w' ∧ Fl b r3.2 w' ∧ Arr w.heap.size [.int .i64 r3.1, .int .i64 q.2.1, .int .i64 q.2.2.1, .int .i64 q.2.2.2] w' ∧ Arr (w.heap.size + 1) [.int .i64 0, .int .i64 0, .int .i64 0, .int .i64 0] w') ⟨(K3.new _ _ (by omega) _), (f3.new w.heap.size 0 (by omega) (.int .i64 r3.1)), (B0_3.put 0 (zD rfl) (.int .i64 r3.1) [.int .i64 r3.1, .int .i64 q.2.1, .int .i64 q.2.2.1, .int .i64 q.2.2.2] rfl), (B1_3.new w.heap.size 0 (by omega) (.int .i64 r3.1))⟩ ?_
  rintro w4 ⟨K4, BF_4, B0_4, B1_4⟩
  have z4 := B1_4.lies
  clear K3 f3 B0_3 B1_3
  rw [rounds_succ]
  have c5_B0_1 : w4.cell? ⟨w.heap.size, 1, none⟩ = some (.int .i64 q.2.1) := B0_4.c 1 (zD rfl)
  go_wp2_with fail
  refine (rDiv_any b r3.2 q.2.1 r2.1 _ BF_4).mono ?_
  rintro e w5 ⟨rfl, f5, k5⟩
  generalize e5 : divS r3.2 q.2.1 r2.1 = r5 at f5 ⊢
  have E5 : Hid _ := e5
  clear e5
  have K5 := Kept.trans K4 k5
  have B0_5 := B0_4.kept k5 (by omega)
  have B1_5 := B1_4.kept k5 (by omega)
  have z5 := B1_5.lies
  clear c5_B0_1 K4 BF_4 B0_4 B1_4 k5
  have c6_B0_1 : w5.cell? ⟨w.heap.size, 1, none⟩ = some (.int .i64 q.2.1) := B0_5.c 1 (zD rfl)
  have g6_B0_1 := B0_5.f 1 (zD rfl)
  go_wp2_with fail
  clear c6_B0_1 g6_B0_1
  refine rounds_letter (S := fun w' => Kept b w w' ∧ Fl b r5.2 w' ∧ Arr w.heap.size [.int .i64 r3.1, .int .i64 r5.1, .int .i64 q.2.2.1, .int .i64 q.2.2.2] w' ∧ Arr (w.heap.size + 1) [.int .i64 0, .int .i64 0, .int .i64 0, .int .i64 0] w') ⟨(K5.new _ _ (by omega) _), (f5.new w.heap.size 1 (by omega) (.int .i64 r5.1)), (B0_5.put 1 (zD rfl) (.int .i64 r5.1) [.int .i64 r3.1, .int .i64 r5.1, .int .i64 q.2.2.1, .int .i64 q.2.2.2] rfl), (B1_5.new w.heap.size 1 (by omega) (.int .i64 r5.1))⟩ ?_
  rintro w6 ⟨K6, BF_6, B0_6, B1_6⟩
  have z6 := B1_6.lies
  clear K5 f5 B0_5 B1_5
  rw [rounds_succ]
  have c7_B0_2 : w6.cell? ⟨w.heap.size, 2, none⟩ = some (.int .i64 q.2.2.1) := B0_6.c 2 (zD rfl)
  go_wp2_with fail
  refine (rDiv_any b r5.2 q.2.2.1 r2.1 _ BF_6).mono ?_
  rintro e w7 ⟨rfl, f7, k7⟩
  generalize e7 : divS r5.2 q.2.2.1 r2.1 = r7 at f7 ⊢
  have E7 : Hid _ := e7
  clear e7
  have K7 := Kept.trans K6 k7
  have B0_7 := B0_6.kept k7 (by omega)
  have B1_7 := B1_6.kept k7 (by omega)
  have z7 := B1_7.lies
  clear c7_B0_2 K6 BF_6 B0_6 B1_6 k7
  have c8_B0_2 : w7.cell? ⟨w.heap.size, 2, none⟩ = some (.int .i64 q.2.2.1) := B0_7.c 2 (zD rfl)
  have g8_B0_2 := B0_7.f 2 (zD rfl)
  go_wp2_with fail
  clear c8_B0_2 g8_B0_2
  refine rounds_letter (S := fun w' => Kept b w w' ∧ Fl b r7.2 w' ∧ Arr w.heap.size [.int .i64 r3.1, .int .i64 r5.1, .int .i64 r7.1, .int .i64 q.2.2.2] w' ∧ Arr (w.heap.size + 1) [.int .i64 0, .int .i64 0, .int .i64 0, .int .i64 0] w') ⟨(K7.new _ _ (by omega) _), (f7.new w.heap.size 2 (by omega) (.int .i64 r7.1)), (B0_7.put 2 (zD rfl) (.int .i64 r7.1) [.int .i64 r3.1, .int .i64 r5.1, .int .i64 r7.1, .int .i64 q.2.2.2] rfl), (B1_7.new w.heap.size 2 (by omega) (.int .i64 r7.1))⟩ ?_
  rintro w8 ⟨K8, BF_8, B0_8, B1_8⟩
  have z8 := B1_8.lies
  clear K7 f7 B0_7 B1_7
  rw [rounds_succ]
  have c9_B0_3 : w8.cell? ⟨w.heap.size, 3, none⟩ = some (.int .i64 q.2.2.2) := B0_8.c 3 (zD rfl)
  go_wp2_with fail
  refine (rDiv_any b r7.2 q.2.2.2 r2.1 _ BF_8).mono ?_
  rintro e w9 ⟨rfl, f9, k9⟩
  generalize e9 : divS r7.2 q.2.2.2 r2.1 = r9 at f9 ⊢
  have E9 : Hid _ := e9
  clear e9
  have K9 := Kept.trans K8 k9
  have B0_9 := B0_8.kept k9 (by omega)
  have B1_9 := B1_8.kept k9 (by omega)
  have z9 := B1_9.lies
  clear c9_B0_3 K8 BF_8 B0_8 B1_8 k9
  have c10_B0_3 : w9.cell? ⟨w.heap.size, 3, none⟩ = some (.int .i64 q.2.2.2) := B0_9.c 3 (zD rfl)
  have g10_B0_3 := B0_9.f 3 (zD rfl)
  go_wp2_with fail
  clear c10_B0_3 g10_B0_3
  refine rounds_letter (S := fun w' => Kept b w w' ∧ Fl b r9.2 w' ∧ Arr w.heap.size [.int .i64 r3.1, .int .i64 r5.1, .int .i64 r7.1, .int .i64 r9.1] w' ∧ Arr (w.heap.size + 1) [.int .i64 0, .int .i64 0, .int .i64 0, .int .i64 0] w') ⟨(K9.new _ _ (by omega) _), (f9.new w.heap.size 3 (by omega) (.int .i64 r9.1)), (B0_9.put 3 (zD rfl) (.int .i64 r9.1) [.int .i64 r3.1, .int .i64 r5.1, .int .i64 r7.1, .int .i64 r9.1] rfl), (B1_9.new w.heap.size 3 (by omega) (.int .i64 r9.1))⟩ ?_
  rintro w10 ⟨K10, BF_10, B0_10, B1_10⟩
  have z10 := B1_10.lies
  clear K9 f9 B0_9 B1_9
  rw [rounds_succ]
  rcases Bool.eq_false_or_eq_true r9.2 with hc2 | hc2
  ·have Hhc2 : Hid (r9.2 = true) := hc2
   have c11_B1_0 : w10.cell? ⟨w.heap.size + 1, 0, none⟩ = some (.int .i64 0) := B1_10.c 0 (zD rfl)
   have c11_B1_1 : w10.cell? ⟨w.heap.size + 1, 1, none⟩ = some (.int .i64 0) := B1_10.c 1 (zD rfl)
   have c11_B1_2 : w10.cell? ⟨w.heap.size + 1, 2, none⟩ = some (.int .i64 0) := B1_10.c 2 (zD rfl)
   have c11_B1_3 : w10.cell? ⟨w.heap.size + 1, 3, none⟩ = some (.int .i64 0) := B1_10.c 3 (zD rfl)
   have c11_BF := BF_10.cell
   have g11_B1_0 := B1_10.f 0 (zD rfl)
   have g11_B1_1 := B1_10.f 1 (zD rfl)
   have g11_B1_2 := B1_10.f 2 (zD rfl)
   have g11_B1_3 := B1_10.f 3 (zD rfl)
   go_wp2
   clear c11_B1_0 c11_B1_1 c11_B1_2 c11_B1_3 c11_BF g11_B1_0 g11_B1_1 g11_B1_2 g11_B1_3
   have d0 := Arr.c (B1_10.put 0 (zD rfl) (.int .i64 0) [.int .i64 0, .int .i64 0, .int .i64 0, .int .i64 0] rfl) 0 (zD rfl)
   have d1 := Arr.c ((B1_10.put 0 (zD rfl) (.int .i64 0) [.int .i64 0, .int .i64 0, .int .i64 0, .int .i64 0] rfl).put 1 (zD rfl) (.int .i64 0) [.int .i64 0, .int .i64 0, .int .i64 0, .int .i64 0] rfl) 1 (zD rfl)
   have d2 := Arr.c (((B1_10.put 0 (zD rfl) (.int .i64 0) [.int .i64 0, .int .i64 0, .int .i64 0, .int .i64 0] rfl).put 1 (zD rfl) (.int .i64 0) [.int .i64 0, .int .i64 0, .int .i64 0, .int .i64 0] rfl).put 2 (zD rfl) (.int .i64 0) [.int .i64 0, .int .i64 0, .int .i64 0, .int .i64 0] rfl) 2 (zD rfl)
   have d3 := Arr.c ((((B1_10.put 0 (zD rfl) (.int .i64 0) [.int .i64 0, .int .i64 0, .int .i64 0, .int .i64 0] rfl).put 1 (zD rfl) (.int .i64 0) [.int .i64 0, .int .i64 0, .int .i64 0, .int .i64 0] rfl).put 2 (zD rfl) (.int .i64 0) [.int .i64 0, .int .i64 0, .int .i64 0, .int .i64 0] rfl).put 3 (zD rfl) (.int .i64 0) [.int .i64 0, .int .i64 0, .int .i64 0, .int .i64 0] rfl) 3 (zD rfl)
   refine bodyPost_ret (v := .agg #[.int .i64 0, .int .i64 0, .int .i64 0, .int .i64 0]) (by simp [results, Tryz.results33, go_sem, d0, d1, d2, d3]) rfl ?_
   have hs : xUnitS bad q = ((0, 0, 0, 0), r9.2) := by unfold xUnitS; simp only [E1.out, E2.out, E3.out, E5.out, E7.out, E9.out]; rw [if_neg (by have := Hhc1.out; omega)]; rw [if_pos Hhc2.out]
   rw [hs]
   exact ⟨rfl, ((((BF_10.new (w.heap.size + 1) 0 (by omega) (.int .i64 0)).new (w.heap.size + 1) 1 (by omega) (.int .i64 0)).new (w.heap.size + 1) 2 (by omega) (.int .i64 0)).new (w.heap.size + 1) 3 (by omega) (.int .i64 0)), ((((K10.new _ _ (by omega) _).new _ _ (by omega) _).new _ _ (by omega) _).new _ _ (by omega) _)⟩
  ·have Hhc2 : Hid (r9.2 = false) := hc2
   by_cases hc3 : r9.1 < 0
   ·have Hhc3 : Hid (r9.1 < 0) := hc3
    have c11_B0_3 : w10.cell? ⟨w.heap.size, 3, none⟩ = some (.int .i64 r9.1) := B0_10.c 3 (zD rfl)
    have c11_BF := BF_10.cell
    go_wp2_with fail
    clear c11_B0_3 c11_BF
    refine wp_loop_rounds 5 ?_
    rw [rounds_succ]
    have c12_B0_0 : w10.cell? ⟨w.heap.size, 0, none⟩ = some (.int .i64 r3.1) := B0_10.c 0 (zD rfl)
    have g12_B0_0 := B0_10.f 0 (zD rfl)
    have q12_2 : -4611686018427387904 ≤ r3.1 ∧ r3.1 ≤ 4611686018427387904 := (by rw [← E3.out]; exact divS_rng _ _ _)
    obtain ⟨q12_2a, q12_2b⟩ := q12_2
    go_wp2_with fail
    clear c12_B0_0 g12_B0_0 q12_2a q12_2b
    refine rounds_letter (S := fun w' => Kept b w w' ∧ Fl b r9.2 w' ∧ Arr w.heap.size [.int .i64 (-r3.1), .int .i64 r5.1, .int .i64 r7.1, .int .i64 r9.1] w' ∧ Arr (w.heap.size + 1) [.int .i64 0, .int .i64 0, .int .i64 0, .int .i64 0] w') ⟨(K10.new _ _ (by omega) _), (BF_10.new w.heap.size 0 (by omega) (.int .i64 (-r3.1))), (B0_10.put 0 (zD rfl) (.int .i64 (-r3.1)) [.int .i64 (-r3.1), .int .i64 r5.1, .int .i64 r7.1, .int .i64 r9.1] rfl), (B1_10.new w.heap.size 0 (by omega) (.int .i64 (-r3.1)))⟩ ?_
    rintro w11 ⟨K11, BF_11, B0_11, B1_11⟩
    have z11 := B1_11.lies
    clear K10 BF_10 B0_10 B1_10
    rw [rounds_succ]
    have c13_B0_1 : w11.cell? ⟨w.heap.size, 1, none⟩ = some (.int .i64 r5.1) := B0_11.c 1 (zD rfl)
    have g13_B0_1 := B0_11.f 1 (zD rfl)
    have q13_2 : -4611686018427387904 ≤ r5.1 ∧ r5.1 ≤ 4611686018427387904 := (by rw [← E5.out]; exact divS_rng _ _ _)
    obtain ⟨q13_2a, q13_2b⟩ := q13_2
    go_wp2_with fail
    clear c13_B0_1 g13_B0_1 q13_2a q13_2b
    refine rounds_letter (S := fun w' => Kept b w w' ∧ Fl b r9.2 w' ∧ Arr w.heap.size [.int .i64 (-r3.1), .int .i64 (-r5.1), .int .i64 r7.1, .int .i64 r9.1] w' ∧ Arr (w.heap.size + 1) [.int .i64 0, .int .i64 0, .int .i64 0, .int .i64 0] w') ⟨(K11.new _ _ (by omega) _), (BF_11.new w.heap.size 1 (by omega) (.int .i64 (-r5.1))), (B0_11.put 1 (zD rfl) (.int .i64 (-r5.1)) [.int .i64 (-r3.1), .int .i64 (-r5.1), .int .i64 r7.1, .int .i64 r9.1] rfl), (B1_11.new w.heap.size 1 (by omega) (.int .i64 (-r5.1)))⟩ ?_
    rintro w12 ⟨K12, BF_12, B0_12, B1_12⟩
    have z12 := B1_12.lies
    clear K11 BF_11 B0_11 B1_11
    rw [rounds_succ]
    have c14_B0_2 : w12.cell? ⟨w.heap.size, 2, none⟩ = some (.int .i64 r7.1) := B0_12.c 2 (zD rfl)
    have g14_B0_2 := B0_12.f 2 (zD rfl)
    have q14_2 : -4611686018427387904 ≤ r7.1 ∧ r7.1 ≤ 4611686018427387904 := (by rw [← E7.out]; exact divS_rng _ _ _)
    obtain ⟨q14_2a, q14_2b⟩ := q14_2
    go_wp2_with fail
    clear c14_B0_2 g14_B0_2 q14_2a q14_2b
    refine rounds_letter (S := fun w' => Kept b w w' ∧ Fl b r9.2 w' ∧ Arr w.heap.size [.int .i64 (-r3.1), .int .i64 (-r5.1), .int .i64 (-r7.1), .int .i64 r9.1] w' ∧ Arr (w.heap.size + 1) [.int .i64 0, .int .i64 0, .int .i64 0, .int .i64 0] w') ⟨(K12.new _ _ (by omega) _), (BF_12.new w.heap.size 2 (by omega) (.int .i64 (-r7.1))), (B0_12.put 2 (zD rfl) (.int .i64 (-r7.1)) [.int .i64 (-r3.1), .int .i64 (-r5.1), .int .i64 (-r7.1), .int .i64 r9.1] rfl), (B1_12.new w.heap.size 2 (by omega) (.int .i64 (-r7.1)))⟩ ?_
    rintro w13 ⟨K13, BF_13, B0_13, B1_13⟩
    have z13 := B1_13.lies
    clear K12 BF_12 B0_12 B1_12
    rw [rounds_succ]
    have c15_B0_3 : w13.cell? ⟨w.heap.size, 3, none⟩ = some (.int .i64 r9.1) := B0_13.c 3 (zD rfl)
    have g15_B0_3 := B0_13.f 3 (zD rfl)
    have q15_2 : -4611686018427387904 ≤ r9.1 ∧ r9.1 ≤ 4611686018427387904 := (by rw [← E9.out]; exact divS_rng _ _ _)
    obtain ⟨q15_2a, q15_2b⟩ := q15_2
    go_wp2_with fail
    clear c15_B0_3 g15_B0_3 q15_2a q15_2b
    refine rounds_letter (S := fun w' => Kept b w w' ∧ Fl b r9.2 w' ∧ Arr w.heap.size [.int .i64 (-r3.1), .int .i64 (-r5.1), .int .i64 (-r7.1), .int .i64 (-r9.1)] w' ∧ Arr (w.heap.size + 1) [.int .i64 0, .int .i64 0, .int .i64 0, .int .i64 0] w') ⟨(K13.new _ _ (by omega) _), (BF_13.new w.heap.size 3 (by omega) (.int .i64 (-r9.1))), (B0_13.put 3 (zD rfl) (.int .i64 (-r9.1)) [.int .i64 (-r3.1), .int .i64 (-r5.1), .int .i64 (-r7.1), .int .i64 (-r9.1)] rfl), (B1_13.new w.heap.size 3 (by omega) (.int .i64 (-r9.1)))⟩ ?_
    rintro w14 ⟨K14, BF_14, B0_14, B1_14⟩
    have z14 := B1_14.lies
    clear K13 BF_13 B0_13 B1_13
    rw [rounds_succ]
    have c16_B0_0 : w14.cell? ⟨w.heap.size, 0, none⟩ = some (.int .i64 (-r3.1)) := B0_14.c 0 (zD rfl)
    have c16_B0_1 : w14.cell? ⟨w.heap.size, 1, none⟩ = some (.int .i64 (-r5.1)) := B0_14.c 1 (zD rfl)
    have c16_B0_2 : w14.cell? ⟨w.heap.size, 2, none⟩ = some (.int .i64 (-r7.1)) := B0_14.c 2 (zD rfl)
    have c16_B0_3 : w14.cell? ⟨w.heap.size, 3, none⟩ = some (.int .i64 (-r9.1)) := B0_14.c 3 (zD rfl)
    have c16_B1_0 : w14.cell? ⟨w.heap.size + 1, 0, none⟩ = some (.int .i64 0) := B1_14.c 0 (zD rfl)
    have c16_B1_1 : w14.cell? ⟨w.heap.size + 1, 1, none⟩ = some (.int .i64 0) := B1_14.c 1 (zD rfl)
    have c16_B1_2 : w14.cell? ⟨w.heap.size + 1, 2, none⟩ = some (.int .i64 0) := B1_14.c 2 (zD rfl)
    have c16_B1_3 : w14.cell? ⟨w.heap.size + 1, 3, none⟩ = some (.int .i64 0) := B1_14.c 3 (zD rfl)
    have g16_B1_0 := B1_14.f 0 (zD rfl)
    have g16_B1_1 := B1_14.f 1 (zD rfl)
    have g16_B1_2 := B1_14.f 2 (zD rfl)
    have g16_B1_3 := B1_14.f 3 (zD rfl)
    go_wp2
    clear c16_B0_0 c16_B0_1 c16_B0_2 c16_B0_3 c16_B1_0 c16_B1_1 c16_B1_2 c16_B1_3 g16_B1_0 g16_B1_1 g16_B1_2 g16_B1_3
    have d0 := Arr.c (B1_14.put 0 (zD rfl) (.int .i64 (-r3.1)) [.int .i64 (-r3.1), .int .i64 0, .int .i64 0, .int .i64 0] rfl) 0 (zD rfl)
    have d1 := Arr.c ((B1_14.put 0 (zD rfl) (.int .i64 (-r3.1)) [.int .i64 (-r3.1), .int .i64 0, .int .i64 0, .int .i64 0] rfl).put 1 (zD rfl) (.int .i64 (-r5.1)) [.int .i64 (-r3.1), .int .i64 (-r5.1), .int .i64 0, .int .i64 0] rfl) 1 (zD rfl)
    have d2 := Arr.c (((B1_14.put 0 (zD rfl) (.int .i64 (-r3.1)) [.int .i64 (-r3.1), .int .i64 0, .int .i64 0, .int .i64 0] rfl).put 1 (zD rfl) (.int .i64 (-r5.1)) [.int .i64 (-r3.1), .int .i64 (-r5.1), .int .i64 0, .int .i64 0] rfl).put 2 (zD rfl) (.int .i64 (-r7.1)) [.int .i64 (-r3.1), .int .i64 (-r5.1), .int .i64 (-r7.1), .int .i64 0] rfl) 2 (zD rfl)
    have d3 := Arr.c ((((B1_14.put 0 (zD rfl) (.int .i64 (-r3.1)) [.int .i64 (-r3.1), .int .i64 0, .int .i64 0, .int .i64 0] rfl).put 1 (zD rfl) (.int .i64 (-r5.1)) [.int .i64 (-r3.1), .int .i64 (-r5.1), .int .i64 0, .int .i64 0] rfl).put 2 (zD rfl) (.int .i64 (-r7.1)) [.int .i64 (-r3.1), .int .i64 (-r5.1), .int .i64 (-r7.1), .int .i64 0] rfl).put 3 (zD rfl) (.int .i64 (-r9.1)) [.int .i64 (-r3.1), .int .i64 (-r5.1), .int .i64 (-r7.1), .int .i64 (-r9.1)] rfl) 3 (zD rfl)
    refine bodyPost_ret (v := .agg #[.int .i64 (-r3.1), .int .i64 (-r5.1), .int .i64 (-r7.1), .int .i64 (-r9.1)]) (by simp [results, Tryz.results33, go_sem, d0, d1, d2, d3]) rfl ?_
    have hs : xUnitS bad q = (((-r3.1), (-r5.1), (-r7.1), (-r9.1)), r9.2) := by unfold xUnitS; simp only [E1.out, E2.out, E3.out, E5.out, E7.out, E9.out]; rw [if_neg (by have := Hhc1.out; omega)]; rw [if_neg (by rw [Hhc2.out]; decide)]; rw [if_pos (by have := Hhc3.out; omega)]
    rw [hs]
    exact ⟨rfl, ((((BF_14.new (w.heap.size + 1) 0 (by omega) (.int .i64 (-r3.1))).new (w.heap.size + 1) 1 (by omega) (.int .i64 (-r5.1))).new (w.heap.size + 1) 2 (by omega) (.int .i64 (-r7.1))).new (w.heap.size + 1) 3 (by omega) (.int .i64 (-r9.1))), ((((K14.new _ _ (by omega) _).new _ _ (by omega) _).new _ _ (by omega) _).new _ _ (by omega) _)⟩
   ·have Hhc3 : Hid (¬ r9.1 < 0) := hc3
    have c11_B0_0 : w10.cell? ⟨w.heap.size, 0, none⟩ = some (.int .i64 r3.1) := B0_10.c 0 (zD rfl)
    have c11_B0_1 : w10.cell? ⟨w.heap.size, 1, none⟩ = some (.int .i64 r5.1) := B0_10.c 1 (zD rfl)
    have c11_B0_2 : w10.cell? ⟨w.heap.size, 2, none⟩ = some (.int .i64 r7.1) := B0_10.c 2 (zD rfl)
    have c11_B0_3 : w10.cell? ⟨w.heap.size, 3, none⟩ = some (.int .i64 r9.1) := B0_10.c 3 (zD rfl)
    have c11_B1_0 : w10.cell? ⟨w.heap.size + 1, 0, none⟩ = some (.int .i64 0) := B1_10.c 0 (zD rfl)
    have c11_B1_1 : w10.cell? ⟨w.heap.size + 1, 1, none⟩ = some (.int .i64 0) := B1_10.c 1 (zD rfl)
    have c11_B1_2 : w10.cell? ⟨w.heap.size + 1, 2, none⟩ = some (.int .i64 0) := B1_10.c 2 (zD rfl)
    have c11_B1_3 : w10.cell? ⟨w.heap.size + 1, 3, none⟩ = some (.int .i64 0) := B1_10.c 3 (zD rfl)
    have c11_BF := BF_10.cell
    have g11_B1_0 := B1_10.f 0 (zD rfl)
    have g11_B1_1 := B1_10.f 1 (zD rfl)
    have g11_B1_2 := B1_10.f 2 (zD rfl)
    have g11_B1_3 := B1_10.f 3 (zD rfl)
    go_wp2
    clear c11_B0_0 c11_B0_1 c11_B0_2 c11_B0_3 c11_B1_0 c11_B1_1 c11_B1_2 c11_B1_3 c11_BF g11_B1_0 g11_B1_1 g11_B1_2 g11_B1_3
    have d0 := Arr.c (B1_10.put 0 (zD rfl) (.int .i64 r3.1) [.int .i64 r3.1, .int .i64 0, .int .i64 0, .int .i64 0] rfl) 0 (zD rfl)
    have d1 := Arr.c ((B1_10.put 0 (zD rfl) (.int .i64 r3.1) [.int .i64 r3.1, .int .i64 0, .int .i64 0, .int .i64 0] rfl).put 1 (zD rfl) (.int .i64 r5.1) [.int .i64 r3.1, .int .i64 r5.1, .int .i64 0, .int .i64 0] rfl) 1 (zD rfl)
    have d2 := Arr.c (((B1_10.put 0 (zD rfl) (.int .i64 r3.1) [.int .i64 r3.1, .int .i64 0, .int .i64 0, .int .i64 0] rfl).put 1 (zD rfl) (.int .i64 r5.1) [.int .i64 r3.1, .int .i64 r5.1, .int .i64 0, .int .i64 0] rfl).put 2 (zD rfl) (.int .i64 r7.1) [.int .i64 r3.1, .int .i64 r5.1, .int .i64 r7.1, .int .i64 0] rfl) 2 (zD rfl)
    have d3 := Arr.c ((((B1_10.put 0 (zD rfl) (.int .i64 r3.1) [.int .i64 r3.1, .int .i64 0, .int .i64 0, .int .i64 0] rfl).put 1 (zD rfl) (.int .i64 r5.1) [.int .i64 r3.1, .int .i64 r5.1, .int .i64 0, .int .i64 0] rfl).put 2 (zD rfl) (.int .i64 r7.1) [.int .i64 r3.1, .int .i64 r5.1, .int .i64 r7.1, .int .i64 0] rfl).put 3 (zD rfl) (.int .i64 r9.1) [.int .i64 r3.1, .int .i64 r5.1, .int .i64 r7.1, .int .i64 r9.1] rfl) 3 (zD rfl)
    refine bodyPost_ret (v := .agg #[.int .i64 r3.1, .int .i64 r5.1, .int .i64 r7.1, .int .i64 r9.1]) (by simp [results, Tryz.results33, go_sem, d0, d1, d2, d3]) rfl ?_
    have hs : xUnitS bad q = ((r3.1, r5.1, r7.1, r9.1), r9.2) := by unfold xUnitS; simp only [E1.out, E2.out, E3.out, E5.out, E7.out, E9.out]; rw [if_neg (by have := Hhc1.out; omega)]; rw [if_neg (by rw [Hhc2.out]; decide)]; rw [if_neg (by have := Hhc3.out; omega)]
    rw [hs]
    exact ⟨rfl, ((((BF_10.new (w.heap.size + 1) 0 (by omega) (.int .i64 r3.1)).new (w.heap.size + 1) 1 (by omega) (.int .i64 r5.1)).new (w.heap.size + 1) 2 (by omega) (.int .i64 r7.1)).new (w.heap.size + 1) 3 (by omega) (.int .i64 r9.1)), ((((K10.new _ _ (by omega) _).new _ _ (by omega) _).new _ _ (by omega) _).new _ _ (by omega) _)⟩
end Go.Proofs.YtpjobkbefgehjaaGreat
namespace Go.Proofs.YtpjobkbefgehjaaGreat
open Go.RowKit
set_option maxRecDepth 100000
set_option maxHeartbeats 20000000
theorem xFromRod_any (b : Nat) (bad : Bool) (p : V3) (w : World) (hw : Fl b bad w) :
  Calls Tryz.prog 31 #[.pointer (some ⟨b, 0, none⟩), .agg #[.int .i64 p.1, .int .i64 p.2.1, .int .i64 p.2.2]] w fun e w' => e = .returned (.agg #[.int .i64 ((xFromRodS bad p).1.1), .int .i64 ((xFromRodS bad p).1.2.1), .int .i64 ((xFromRodS bad p).1.2.2.1), .int .i64 ((xFromRodS bad p).1.2.2.2)]) ∧ Fl b (xFromRodS bad p).2 w' ∧ Kept b w w' := by
 have hl := hw.lies
 go_enter Tryz.func31, Tryz.ntmps31
 go_wp2_with fail
 refine (uDot_any b bad p p _ ((hw.alloc _).alloc _)).mono ?_
 rintro e w1 ⟨rfl, f1, k1⟩
 generalize e1 : uDotS bad p p = r1 at f1 ⊢
 have E1 : Hid _ := e1
 clear e1
 have K1 : Kept b w w1 := Kept.trans (((Kept.refl b w).al _).al _) k1
 have B0_1 : Arr w.heap.size [.int .i64 p.1, .int .i64 p.2.1, .int .i64 p.2.2] w1 := ((Arr_at _ _ [.int .i64 p.1, .int .i64 p.2.1, .int .i64 p.2.2] _ (by simp)).alloc _).kept k1 (by omega)
 have B1_1 : Arr (w.heap.size + 1) [.int .i64 0, .int .i64 0, .int .i64 0, .int .i64 0] w1 := (Arr_at _ _ [.int .i64 0, .int .i64 0, .int .i64 0, .int .i64 0] _ (by simp)).kept k1 (by omega)
 have z1 := B1_1.lies
 clear k1
 go_wp2_with fail
 refine (rAdd_any b r1.2 17592186044416 r1.1 _ f1).mono ?_
 rintro e w2 ⟨rfl, f2, k2⟩
 generalize e2 : addS r1.2 17592186044416 r1.1 = r2 at f2 ⊢
 have E2 : Hid _ := e2
 clear e2
 have K2 := Kept.trans K1 k2
 have B0_2 := B0_1.kept k2 (by omega)
 have B1_2 := B1_1.kept k2 (by omega)
 have z2 := B1_2.lies
 clear K1 f1 B0_1 B1_1 k2
 go_wp2_with fail
 refine wp_loop_rounds 4 ?_
 rw [rounds_succ]
 have c4_B0_0 : w2.cell? ⟨w.heap.size, 0, none⟩ = some (.int .i64 p.1) := B0_2.c 0 (zD rfl)
 have l4_B0 := B0_2.lies
 go_wp2_with fail
 refine (rMul_any b r2.2 p.1 8796093022208 _ (f2.alloc _)).mono ?_
 rintro e w3 ⟨rfl, f3, k3⟩
 generalize e3 : mulS r2.2 p.1 8796093022208 = r3 at f3 ⊢
 have E3 : Hid _ := e3
 clear e3
 have K3 : Kept b w w3 := Kept.trans (K2.al _) k3
 have B0_3 := (B0_2.alloc _).kept k3 (by omega)
 have B1_3 := (B1_2.alloc _).kept k3 (by omega)
 have B2_3 : Arr w2.heap.size [.int .i64 0, .int .i64 0, .int .i64 0, .int .i64 0] w3 := (Arr_at _ _ [.int .i64 0, .int .i64 0, .int .i64 0, .int .i64 0] _ (by simp)).kept k3 (by omega)
 have z3 := B2_3.lies
 clear c4_B0_0 l4_B0 K2 f2 B0_2 B1_2 k3
 go_wp2_with fail
 refine (rDiv_any b r3.2 r3.1 r2.1 _ f3).mono ?_
 rintro e w4 ⟨rfl, f4, k4⟩
 generalize e4 : divS r3.2 r3.1 r2.1 = r4 at f4 ⊢
 have E4 : Hid _ := e4
 clear e4
 have K4 := Kept.trans K3 k4
 have B0_4 := B0_3.kept k4 (by omega)
 have B1_4 := B1_3.kept k4 (by omega)
 have B2_4 := B2_3.kept k4 (by omega)
 have z4 := B2_4.lies
 clear K3 f3 B0_3 B1_3 B2_3 k4
 have c6_B2_0 : w4.cell? ⟨w2.heap.size, 0, none⟩ = some (.int .i64 0) := B2_4.c 0 (zD rfl)
 have g6_B2_0 := B2_4.f 0 (zD rfl)
 go_wp2_with fail
 clear c6_B2_0 g6_B2_0
 refine rounds_letter (S := fun w' => Kept b w w' ∧ Fl b r4.2 w' ∧ Arr w.heap.size [.int .i64 p.1, .int .i64 p.2.1, .int .i64 p.2.2] w' ∧ Arr (w.heap.size + 1) [.int .i64 0, .int .i64 0, .int .i64 0, .int .i64 0] w' ∧ Arr w2.heap.size [.int .i64 r4.1, .int .i64 0, .int .i64 0, .int .i64 0] w') ⟨(K4.new _ _ (by omega) _), (f4.new w2.heap.size 0 (by omega) (.int .i64 r4.1)), (B0_4.new w2.heap.size 0 (by omega) (.int .i64 r4.1)), (B1_4.new w2.heap.size 0 (by omega) (.int .i64 r4.1)), (B2_4.put 0 (zD rfl) (.int .i64 r4.1) [.int .i64 r4.1, .int .i64 0, .int .i64 0, .int .i64 0] rfl)⟩ ?_
 rintro w5 ⟨K5, BF_5, B0_5, B1_5, B2_5⟩
 have z5 := B2_5.lies
 clear K4 f4 B0_4 B1_4 B2_4
 rw [rounds_succ]
 have c7_B0_1 : w5.cell? ⟨w.heap.size, 1, none⟩ = some (.int .i64 p.2.1) := B0_5.c 1 (zD rfl)
 go_wp2_with fail
 refine (rMul_any b r4.2 p.2.1 8796093022208 _ BF_5).mono ?_
 rintro e w6 ⟨rfl, f6, k6⟩
 generalize e6 : mulS r4.2 p.2.1 8796093022208 = r6 at f6 ⊢
 have E6 : Hid _ := e6
 clear e6
 have K6 := Kept.trans K5 k6
 have B0_6 := B0_5.kept k6 (by omega)
 have B1_6 := B1_5.kept k6 (by omega)
 have B2_6 := B2_5.kept k6 (by omega)
 have z6 := B2_6.lies
 clear c7_B0_1 K5 BF_5 B0_5 B1_5 B2_5 k6
 go_wp2_with fail
 refine (rDiv_any b r6.2 r6.1 r2.1 _ f6).mono ?_
 rintro e w7 ⟨rfl, f7, k7⟩
 generalize e7 : divS r6.2 r6.1 r2.1 = r7 at f7 ⊢
 have E7 : Hid _ := e7
 clear e7
 have K7 := Kept.trans K6 k7
 have B0_7 := B0_6.kept k7 (by omega)
 have B1_7 := B1_6.kept k7 (by omega)
 have B2_7 := B2_6.kept k7 (by omega)
 have z7 := B2_7.lies
 clear K6 f6 B0_6 B1_6 B2_6 k7
 have c9_B2_1 : w7.cell? ⟨w2.heap.size, 1, none⟩ = some (.int .i64 0) := B2_7.c 1 (zD rfl)
 have g9_B2_1 := B2_7.f 1 (zD rfl)
 go_wp2_with fail
 clear c9_B2_1 g9_B2_1
 refine rounds_letter (S := fun w' => Kept b w w' ∧ Fl b r7.2 w' ∧ Arr w.heap.size [.int .i64 p.1, .int .i64 p.2.1, .int .i64 p.2.2] w' ∧ Arr (w.heap.size + 1) [.int .i64 0, .int .i64 0, .int .i64 0, .int .i64 0] w' ∧ Arr w2.heap.size [.int .i64 r4.1, .int .i64 r7.1, .int .i64 0, .int .i64 0] w') ⟨(K7.new _ _ (by omega) _), (f7.new w2.heap.size 1 (by omega) (.int .i64 r7.1)), (B0_7.new w2.heap.size 1 (by omega) (.int .i64 r7.1)), (B1_7.new w2.heap.size 1 (by omega) (.int .i64 r7.1)), (B2_7.put 1 (zD rfl) (.int .i64 r7.1) [.int .i64 r4.1, .int .i64 r7.1, .int .i64 0, .int .i64 0] rfl)⟩ ?_
 rintro w8 ⟨K8, BF_8, B0_8, B1_8, B2_8⟩
 have z8 := B2_8.lies
 clear K7 f7 B0_7 B1_7 B2_7
 rw [rounds_succ]
 have c10_B0_2 : w8.cell? ⟨w.heap.size, 2, none⟩ = some (.int .i64 p.2.2) := B0_8.c 2 (zD rfl)
 go_wp2_with fail
 refine (rMul_any b r7.2 p.2.2 8796093022208 _ BF_8).mono ?_
 rintro e w9 ⟨rfl, f9, k9⟩
 generalize e9 : mulS r7.2 p.2.2 8796093022208 = r9 at f9 ⊢
 have E9 : Hid _ := e9
 clear e9
 have K9 := Kept.trans K8 k9
 have B0_9 := B0_8.kept k9 (by omega)
 have B1_9 := B1_8.kept k9 (by omega)
 have B2_9 := B2_8.kept k9 (by omega)
 have z9 := B2_9.lies
 clear c10_B0_2 K8 BF_8 B0_8 B1_8 B2_8 k9
 go_wp2_with fail
 refine (rDiv_any b r9.2 r9.1 r2.1 _ f9).mono ?_
 rintro e w10 ⟨rfl, f10, k10⟩
 generalize e10 : divS r9.2 r9.1 r2.1 = r10 at f10 ⊢
 have E10 : Hid _ := e10
 clear e10
 have K10 := Kept.trans K9 k10
 have B0_10 := B0_9.kept k10 (by omega)
 have B1_10 := B1_9.kept k10 (by omega)
 have B2_10 := B2_9.kept k10 (by omega)
 have z10 := B2_10.lies
 clear K9 f9 B0_9 B1_9 B2_9 k10
 have c12_B2_2 : w10.cell? ⟨w2.heap.size, 2, none⟩ = some (.int .i64 0) := B2_10.c 2 (zD rfl)
 have g12_B2_2 := B2_10.f 2 (zD rfl)
 go_wp2_with fail
 clear c12_B2_2 g12_B2_2
 refine rounds_letter (S := fun w' => Kept b w w' ∧ Fl b r10.2 w' ∧ Arr w.heap.size [.int .i64 p.1, .int .i64 p.2.1, .int .i64 p.2.2] w' ∧ Arr (w.heap.size + 1) [.int .i64 0, .int .i64 0, .int .i64 0, .int .i64 0] w' ∧ Arr w2.heap.size [.int .i64 r4.1, .int .i64 r7.1, .int .i64 r10.1, .int .i64 0] w') ⟨(K10.new _ _ (by omega) _), (f10.new w2.heap.size 2 (by omega) (.int .i64 r10.1)), (B0_10.new w2.heap.size 2 (by omega) (.int .i64 r10.1)), (B1_10.new w2.heap.size 2 (by omega) (.int .i64 r10.1)), (B2_10.put 2 (zD rfl) (.int .i64 r10.1) [.int .i64 r4.1, .int .i64 r7.1, .int .i64 r10.1, .int .i64 0] rfl)⟩ ?_
 rintro w11 ⟨K11, BF_11, B0_11, B1_11, B2_11⟩
 have z11 := B2_11.lies
 clear K10 f10 B0_10 B1_10 B2_10
 rw [rounds_succ]
 go_wp2_with fail
 refine (rSub_any b r10.2 17592186044416 r1.1 _ BF_11).mono ?_
 rintro e w12 ⟨rfl, f12, k12⟩
 generalize e12 : subS r10.2 17592186044416 r1.1 = r12 at f12 ⊢
 have E12 : Hid _ := e12
 clear e12
 have K12 := Kept.trans K11 k12
 have B0_12 := B0_11.kept k12 (by omega)
 have B1_12 := B1_11.kept k12 (by omega)
 have B2_12 := B2_11.kept k12 (by omega)
 have z12 := B2_12.lies
 clear K11 BF_11 B0_11 B1_11 B2_11 k12
 go_wp2_with fail
 refine (rDiv_any b r12.2 r12.1 r2.1 _ f12).mono ?_
 rintro e w13 ⟨rfl, f13, k13⟩
 generalize e13 : divS r12.2 r12.1 r2.1 = r13 at f13 ⊢
 have E13 : Hid _ := e13
 clear e13
 have K13 := Kept.trans K12 k13
 have B0_13 := B0_12.kept k13 (by omega)
 have B1_13 := B1_12.kept k13 (by omega)
 have B2_13 := B2_12.kept k13 (by omega)
 have z13 := B2_13.lies
 clear K12 f12 B0_12 B1_12 B2_12 k13
 have c15_B2_0 : w13.cell? ⟨w2.heap.size, 0, none⟩ = some (.int .i64 r4.1) := B2_13.c 0 (zD rfl)
 have c15_B2_1 : w13.cell? ⟨w2.heap.size, 1, none⟩ = some (.int .i64 r7.1) := B2_13.c 1 (zD rfl)
 have c15_B2_2 : w13.cell? ⟨w2.heap.size, 2, none⟩ = some (.int .i64 r10.1) := B2_13.c 2 (zD rfl)
 have c15_B2_3 : w13.cell? ⟨w2.heap.size, 3, none⟩ = some (.int .i64 0) := B2_13.c 3 (zD rfl)
 have g15_B2_3 := B2_13.f 3 (zD rfl)
 go_wp2_with fail
 refine (xUnit_any b r13.2 (r4.1, r7.1, r10.1, r13.1) _ (f13.new w2.heap.size 3 (by omega) (.int .i64 r13.1))).mono ?_
 rintro e w14 ⟨rfl, f14, k14⟩
 generalize e14 : xUnitS r13.2 (r4.1, r7.1, r10.1, r13.1) = r14 at f14 ⊢
 have E14 : Hid _ := e14
 clear e14
 have K14 : Kept b w w14 := Kept.trans (K13.new _ _ (by omega) _) k14
 have B0_14 := (B0_13.new w2.heap.size 3 (by omega) (.int .i64 r13.1)).kept k14 (by omega)
 have B1_14 := (B1_13.new w2.heap.size 3 (by omega) (.int .i64 r13.1)).kept k14 (by omega)
 have B2_14 := (B2_13.put 3 (zD rfl) (.int .i64 r13.1) [.int .i64 r4.1, .int .i64 r7.1, .int .i64 r10.1, .int .i64 r13.1] rfl).kept k14 (by omega)
 have z14 := B2_14.lies
 clear c15_B2_0 c15_B2_1 c15_B2_2 c15_B2_3 g15_B2_3 K13 f13 B0_13 B1_13 B2_13 k14
 have c16_B1_0 : w14.cell? ⟨w.heap.size + 1, 0, none⟩ = some (.int .i64 0) := B1_14.c 0 (zD rfl)
 have c16_B1_1 : w14.cell? ⟨w.heap.size + 1, 1, none⟩ = some (.int .i64 0) := B1_14.c 1 (zD rfl)
 have c16_B1_2 : w14.cell? ⟨w.heap.size + 1, 2, none⟩ = some (.int .i64 0) := B1_14.c 2 (zD rfl)
 have c16_B1_3 : w14.cell? ⟨w.heap.size + 1, 3, none⟩ = some (.int .i64 0) := B1_14.c 3 (zD rfl)
 have g16_B1_0 := B1_14.f 0 (zD rfl)
 have g16_B1_1 := B1_14.f 1 (zD rfl)
 have g16_B1_2 := B1_14.f 2 (zD rfl)
 have g16_B1_3 := B1_14.f 3 (zD rfl)
 go_wp2
 clear c16_B1_0 c16_B1_1 c16_B1_2 c16_B1_3 g16_B1_0 g16_B1_1 g16_B1_2 g16_B1_3
 have d0 := Arr.c (B1_14.put 0 (zD rfl) (.int .i64 r14.1.1) [.int .i64 r14.1.1, .int .i64 0, .int .i64 0, .int .i64 0] rfl) 0 (zD rfl)
 have d1 := Arr.c ((B1_14.put 0 (zD rfl) (.int .i64 r14.1.1) [.int .i64 r14.1.1, .int .i64 0, .int .i64 0, .int .i64 0] rfl).put 1 (zD rfl) (.int .i64 r14.1.2.1) [.int .i64 r14.1.1, .int .i64 r14.1.2.1, .int .i64 0, .int .i64 0] rfl) 1 (zD rfl)
 have d2 := Arr.c (((B1_14.put 0 (zD rfl) (.int .i64 r14.1.1) [.int .i64 r14.1.1, .int .i64 0, .int .i64 0, .int .i64 0] rfl).put 1 (zD rfl) (.int .i64 r14.1.2.1) [.int .i64 r14.1.1, .int .i64 r14.1.2.1, .int .i64 0, .int .i64 0] rfl).put 2 (zD rfl) (.int .i64 r14.1.2.2.1) [.int .i64 r14.1.1, .int .i64 r14.1.2.1, .int .i64 r14.1.2.2.1, .int .i64 0] rfl) 2 (zD rfl)
 have d3 := Arr.c ((((B1_14.put 0 (zD rfl) (.int .i64 r14.1.1) [.int .i64 r14.1.1, .int .i64 0, .int .i64 0, .int .i64 0] rfl).put 1 (zD rfl) (.int .i64 r14.1.2.1) [.int .i64 r14.1.1, .int .i64 r14.1.2.1, .int .i64 0, .int .i64 0] rfl).put 2 (zD rfl) (.int .i64 r14.1.2.2.1) [.int .i64 r14.1.1, .int .i64 r14.1.2.1, .int .i64 r14.1.2.2.1, .int .i64 0] rfl).put 3 (zD rfl) (.int .i64 r14.1.2.2.2) [.int .i64 r14.1.1, .int .i64 r14.1.2.1, .int .i64 r14.1.2.2.1, .int .i64 r14.1.2.2.2] rfl) 3 (zD rfl)
 refine bodyPost_ret (v := .agg #[.int .i64 r14.1.1, .int .i64 r14.1.2.1, .int .i64 r14.1.2.2.1, .int .i64 r14.1.2.2.2]) (by simp [results, Tryz.results31, go_sem, d0, d1, d2, d3]) rfl ?_
 have hs : xFromRodS bad p = (r14.1, r14.2) := by unfold xFromRodS; simp only [E1.out, E2.out, E3.out, E4.out, E6.out, E7.out, E9.out, E10.out, E12.out, E13.out, E14.out]
 rw [hs]
 exact ⟨rfl, ((((f14.new (w.heap.size + 1) 0 (by omega) (.int .i64 r14.1.1)).new (w.heap.size + 1) 1 (by omega) (.int .i64 r14.1.2.1)).new (w.heap.size + 1) 2 (by omega) (.int .i64 r14.1.2.2.1)).new (w.heap.size + 1) 3 (by omega) (.int .i64 r14.1.2.2.2)), ((((K14.new _ _ (by omega) _).new _ _ (by omega) _).new _ _ (by omega) _).new _ _ (by omega) _)⟩
end Go.Proofs.YtpjobkbefgehjaaGreat
namespace Go.Proofs.YtpjobkbefgehjaaGreat
open Go.RowKit
set_option maxRecDepth 100000
set_option maxHeartbeats 20000000
theorem xTurn_any (b : Nat) (bad : Bool) (q : V4) (v : V3) (w : World) (hw : Fl b bad w) :
  Calls Tryz.prog 52 #[.pointer (some ⟨b, 0, none⟩), .agg #[.int .i64 q.1, .int .i64 q.2.1, .int .i64 q.2.2.1, .int .i64 q.2.2.2], .agg #[.int .i64 v.1, .int .i64 v.2.1, .int .i64 v.2.2]] w fun e w' => e = .returned (.agg #[.int .i64 ((xTurnS bad q v).1.1), .int .i64 ((xTurnS bad q v).1.2.1), .int .i64 ((xTurnS bad q v).1.2.2)]) ∧ Fl b (xTurnS bad q v).2 w' ∧ Kept b w w' := by
 have hl := hw.lies
 go_enter Tryz.func52, Tryz.ntmps52
 go_wp2_with fail
 refine (split_any q _).mono ?_
 rintro e w1 ⟨rfl, k1⟩
 have K1 : Kept b w w1 := Kept.trans ((((Kept.refl b w).al _).al _).al _) (Kept.of_below k1)
 have BF_1 := (((hw.alloc _).alloc _).alloc _).below k1
 have B0_1 := (((Arr_at _ w.heap.size [.int .i64 q.1, .int .i64 q.2.1, .int .i64 q.2.2.1, .int .i64 q.2.2.2] _ (by simp)).alloc _).alloc _).below k1
 have B1_1 := ((Arr_at _ (w.heap.size + 1) [.int .i64 v.1, .int .i64 v.2.1, .int .i64 v.2.2] _ (by simp)).alloc _).below k1
 have B2_1 := (Arr_at _ (w.heap.size + 1 + 1) [.int .i64 0, .int .i64 0, .int .i64 0] _ (by simp)).below k1
 have z1 := B2_1.lies
 clear k1
 have c2_B1_0 : w1.cell? ⟨w.heap.size + 1, 0, none⟩ = some (.int .i64 v.1) := B1_1.c 0 (zD rfl)
 have c2_B1_1 : w1.cell? ⟨w.heap.size + 1, 1, none⟩ = some (.int .i64 v.2.1) := B1_1.c 1 (zD rfl)
 have c2_B1_2 : w1.cell? ⟨w.heap.size + 1, 2, none⟩ = some (.int .i64 v.2.2) := B1_1.c 2 (zD rfl)
 have l2_B1 := B1_1.lies
 go_wp2_with fail
 refine (uCross_any b bad (q.1, q.2.1, q.2.2.1) v _ (BF_1.alloc _)).mono ?_
 rintro e w2 ⟨rfl, f2, k2⟩
 generalize e2 : uCrossS bad (q.1, q.2.1, q.2.2.1) v = r2 at f2 ⊢
 have E2 : Hid _ := e2
 clear e2
 have K2 : Kept b w w2 := Kept.trans (K1.al _) k2
 have B0_2 := (B0_1.alloc _).kept k2 (by omega)
 have B1_2 := (B1_1.alloc _).kept k2 (by omega)
 have B2_2 := (B2_1.alloc _).kept k2 (by omega)
 have B3_2 : Arr w1.heap.size [.int .i64 q.1, .int .i64 q.2.1, .int .i64 q.2.2.1] w2 := (Arr_at _ _ [.int .i64 q.1, .int .i64 q.2.1, .int .i64 q.2.2.1] _ (by simp)).kept k2 (by omega)
 have z2 := B3_2.lies
 clear c2_B1_0 c2_B1_1 c2_B1_2 l2_B1 K1 BF_1 B0_1 B1_1 B2_1 k2
 go_wp2_with fail
 refine (uScale_any b r2.2 r2.1 2199023255552 _ f2).mono ?_
 rintro e w3 ⟨rfl, f3, k3⟩
 generalize e3 : uScaleS r2.2 r2.1 2199023255552 = r3 at f3 ⊢
 have E3 : Hid _ := e3
 clear e3
 have K3 := Kept.trans K2 k3
 have B0_3 := B0_2.kept k3 (by omega)
 have B1_3 := B1_2.kept k3 (by omega)
 have B2_3 := B2_2.kept k3 (by omega)
 have B3_3 := B3_2.kept k3 (by omega)
 have z3 := B3_3.lies
 clear K2 f2 B0_2 B1_2 B2_2 B3_2 k3
 go_wp2_with fail
 rename_i K0 aK0
 have cont2 : ∀ (W2 : World) (j11 j12 j13 j14 j15 j16 j17 j18 j19 j20 j21 j22 j23 j24 j25 j26 j27 j28 : Value) (x2_0 : Nat) (r4 : _) (r5 : _) , Hid (uScaleS r3.2 r3.1 q.2.2.2 = r4) → Hid (uSubS r4.2 v r4.1 = r5) → Kept b w W2 → Fl b r5.2 W2 → Arr w.heap.size [.int .i64 q.1, .int .i64 q.2.1, .int .i64 q.2.2.1, .int .i64 q.2.2.2] W2 → Arr (w.heap.size + 1) [.int .i64 v.1, .int .i64 v.2.1, .int .i64 v.2.2] W2 → Arr (w.heap.size + 1 + 1) [.int .i64 0, .int .i64 0, .int .i64 0] W2 → Arr w1.heap.size [.int .i64 q.1, .int .i64 q.2.1, .int .i64 q.2.2.1] W2 → Arr w3.heap.size [.int .i64 r3.1.1, .int .i64 r3.1.2.1, .int .i64 r3.1.2.2] W2 → Arr x2_0 [.int .i64 r5.1.1, .int .i64 r5.1.2.1, .int .i64 r5.1.2.2] W2 → w.heap.size ≤ x2_0 → b < x2_0 → w.heap.size < x2_0 → w.heap.size + 1 < x2_0 → w.heap.size + 1 + 1 < x2_0 → w1.heap.size < x2_0 → w3.heap.size < x2_0 → K0 { tmps := #[.pointer (some ⟨b, 0, none⟩), .agg #[.int .i64 q.1, .int .i64 q.2.1, .int .i64 q.2.2.1, .int .i64 q.2.2.2], .agg #[.int .i64 v.1, .int .i64 v.2.1, .int .i64 v.2.2], undef, .pointer (some ⟨w.heap.size, 0, none⟩), .pointer (some ⟨w.heap.size + 1, 0, none⟩), .pointer (some ⟨w.heap.size + 1 + 1, 0, none⟩), .pointer (some ⟨w1.heap.size, 0, none⟩), .int .i64 q.2.2.2, .pointer (some ⟨w3.heap.size, 0, none⟩), .pointer (some ⟨x2_0, 0, none⟩), j11, j12, j13, j14, j15, j16, j17, j18, j19, j20, j21, j22, j23, j24, j25, j26, j27, j28, undef, undef, undef, undef, undef, undef, undef], defers := [] } W2 := by
  intro W2 j11 j12 j13 j14 j15 j16 j17 j18 j19 j20 j21 j22 j23 j24 j25 j26 j27 j28 x2_0 r4 r5 E4 E5 KC2 BF_c2 B0_c2 B1_c2 B2_c2 B3_c2 B4_c2 B5_c2 s2_0 s2_1 s2_2 s2_3 s2_4 s2_5 s2_6
  apply aK0
  go_wp2_with fail
  refine wp_region_held_drew (S := fun w' => Arr x2_0 [.int .i64 r5.1.1, .int .i64 r5.1.2.1, .int .i64 r5.1.2.2] w' ∧ Arr w1.heap.size [.int .i64 q.1, .int .i64 q.2.1, .int .i64 q.2.2.1] w' ∧ Arr w3.heap.size [.int .i64 r3.1.1, .int .i64 r3.1.2.1, .int .i64 r3.1.2.2] w') (by kernel_rfl) ⟨B5_c2.drew, B3_c2.drew, B4_c2.drew⟩ (fun zH => ?_)
  refine zT 0 rfl (by kernel_rfl) (fun _ _ _ => id) rfl (fun _ _ => by go_simp <;> with_reducible rfl) zH ?_
  simp only [Act.put, zA, zB, zC]
  refine zT 1 rfl (by kernel_rfl) (fun _ _ _ => id) rfl (fun wx hS => by have hc0 : wx.cell? ⟨x2_0, 0, none⟩ = some (.int .i64 r5.1.1) := hS.1.c 0 (zD rfl); have hc1 : wx.cell? ⟨x2_0, 1, none⟩ = some (.int .i64 r5.1.2.1) := hS.1.c 1 (zD rfl); have hc2 : wx.cell? ⟨x2_0, 2, none⟩ = some (.int .i64 r5.1.2.2) := hS.1.c 2 (zD rfl); go_simp <;> with_reducible rfl) zH ?_
  simp only [Act.put, zA, zB, zC]
  refine zT 2 rfl (by kernel_rfl) (fun _ _ _ => id) rfl (fun _ _ => by go_simp <;> with_reducible rfl) zH ?_
  simp only [Act.put, zA, zB, zC]
  refine zT 3 rfl (by kernel_rfl) (fun _ _ _ => id) rfl (fun wx hS => by have hc0 : wx.cell? ⟨w1.heap.size, 0, none⟩ = some (.int .i64 q.1) := hS.2.1.c 0 (zD rfl); have hc1 : wx.cell? ⟨w1.heap.size, 1, none⟩ = some (.int .i64 q.2.1) := hS.2.1.c 1 (zD rfl); have hc2 : wx.cell? ⟨w1.heap.size, 2, none⟩ = some (.int .i64 q.2.2.1) := hS.2.1.c 2 (zD rfl); go_simp <;> with_reducible rfl) zH ?_
  simp only [Act.put, zA, zB, zC]
  refine zT 4 rfl (by kernel_rfl) (fun _ _ _ => id) rfl (fun wx hS => by have hc0 : wx.cell? ⟨w3.heap.size, 0, none⟩ = some (.int .i64 r3.1.1) := hS.2.2.c 0 (zD rfl); have hc1 : wx.cell? ⟨w3.heap.size, 1, none⟩ = some (.int .i64 r3.1.2.1) := hS.2.2.c 1 (zD rfl); have hc2 : wx.cell? ⟨w3.heap.size, 2, none⟩ = some (.int .i64 r3.1.2.2) := hS.2.2.c 2 (zD rfl); go_simp <;> with_reducible rfl) zH ?_
  simp only [Act.put, zA, zB, zC]
  refine zK 5 (by kernel_rfl) rfl (fun K hK => ?_)
  go_simp
  refine (uCross_any b r5.2 (q.1, q.2.1, q.2.2.1) r3.1 _ BF_c2.drew).mono ?_
  rintro e w6 ⟨rfl, f6, k6⟩
  generalize e6 : uCrossS r5.2 (q.1, q.2.1, q.2.2.1) r3.1 = r6 at f6 ⊢
  have E6 : Hid _ := e6
  clear e6
  have K6 : Kept b w w6 := Kept.trans KC2.drew k6
  have B0_6 := B0_c2.drew.kept k6 (by omega)
  have B1_6 := B1_c2.drew.kept k6 (by omega)
  have B2_6 := B2_c2.drew.kept k6 (by omega)
  have B3_6 := B3_c2.drew.kept k6 (by omega)
  have B4_6 := B4_c2.drew.kept k6 (by omega)
  have B5_6 := B5_c2.drew.kept k6 (by omega)
  have z6 := B5_6.lies
  clear zH
  refine hK.out _ _ ⟨B5_6, B3_6, B4_6⟩ (fun zH => ?_)
  clear hK K BF_c2 B0_c2 B1_c2 B2_c2 B3_c2 B4_c2 B5_c2 k6
  refine zK 6 (by kernel_rfl) rfl (fun K hK => ?_)
  go_simp
  refine (uAdd_any b r6.2 r5.1 r6.1 _ f6).mono ?_
  rintro e w7 ⟨rfl, f7, k7⟩
  generalize e7 : uAddS r6.2 r5.1 r6.1 = r7 at f7 ⊢
  have E7 : Hid _ := e7
  clear e7
  have K7 := Kept.trans K6 k7
  have B0_7 := B0_6.kept k7 (by omega)
  have B1_7 := B1_6.kept k7 (by omega)
  have B2_7 := B2_6.kept k7 (by omega)
  have B3_7 := B3_6.kept k7 (by omega)
  have B4_7 := B4_6.kept k7 (by omega)
  have B5_7 := B5_6.kept k7 (by omega)
  have z7 := B5_7.lies
  clear zH
  refine hK.out _ _ ⟨B5_7, B3_7, B4_7⟩ (fun zH => ?_)
  clear hK K K6 f6 B0_6 B1_6 B2_6 B3_6 B4_6 B5_6 k7
  refine zK 7 (by kernel_rfl) rfl (fun K hK => ?_)
  have c6_B2_0 : w7.cell? ⟨w.heap.size + 1 + 1, 0, none⟩ = some (.int .i64 0) := B2_7.c 0 (zD rfl)
  have c6_B2_1 : w7.cell? ⟨w.heap.size + 1 + 1, 1, none⟩ = some (.int .i64 0) := B2_7.c 1 (zD rfl)
  have c6_B2_2 : w7.cell? ⟨w.heap.size + 1 + 1, 2, none⟩ = some (.int .i64 0) := B2_7.c 2 (zD rfl)
  have g6_B2_0 := B2_7.f 0 (zD rfl)
  have g6_B2_1 := B2_7.f 1 (zD rfl)
  have g6_B2_2 := B2_7.f 2 (zD rfl)
  go_simp
  clear zH
  refine hK.out _ _ ⟨(((B5_7.new (w.heap.size + 1 + 1) 0 (by omega) (.int .i64 r7.1.1)).new (w.heap.size + 1 + 1) 1 (by omega) (.int .i64 r7.1.2.1)).new (w.heap.size + 1 + 1) 2 (by omega) (.int .i64 r7.1.2.2)), (((B3_7.new (w.heap.size + 1 + 1) 0 (by omega) (.int .i64 r7.1.1)).new (w.heap.size + 1 + 1) 1 (by omega) (.int .i64 r7.1.2.1)).new (w.heap.size + 1 + 1) 2 (by omega) (.int .i64 r7.1.2.2)), (((B4_7.new (w.heap.size + 1 + 1) 0 (by omega) (.int .i64 r7.1.1)).new (w.heap.size + 1 + 1) 1 (by omega) (.int .i64 r7.1.2.1)).new (w.heap.size + 1 + 1) 2 (by omega) (.int .i64 r7.1.2.2))⟩ (fun zH => ?_)
  clear hK K c6_B2_0 c6_B2_1 c6_B2_2 g6_B2_0 g6_B2_1 g6_B2_2
  refine wpAnyH_done (by kernel_rfl) ?_ _
  clear zH
  go_wp2
  have d0 := Arr.c (B2_7.put 0 (zD rfl) (.int .i64 r7.1.1) [.int .i64 r7.1.1, .int .i64 0, .int .i64 0] rfl) 0 (zD rfl)
  have d1 := Arr.c ((B2_7.put 0 (zD rfl) (.int .i64 r7.1.1) [.int .i64 r7.1.1, .int .i64 0, .int .i64 0] rfl).put 1 (zD rfl) (.int .i64 r7.1.2.1) [.int .i64 r7.1.1, .int .i64 r7.1.2.1, .int .i64 0] rfl) 1 (zD rfl)
  have d2 := Arr.c (((B2_7.put 0 (zD rfl) (.int .i64 r7.1.1) [.int .i64 r7.1.1, .int .i64 0, .int .i64 0] rfl).put 1 (zD rfl) (.int .i64 r7.1.2.1) [.int .i64 r7.1.1, .int .i64 r7.1.2.1, .int .i64 0] rfl).put 2 (zD rfl) (.int .i64 r7.1.2.2) [.int .i64 r7.1.1, .int .i64 r7.1.2.1, .int .i64 r7.1.2.2] rfl) 2 (zD rfl)
  refine bodyPost_ret (v := .agg #[.int .i64 r7.1.1, .int .i64 r7.1.2.1, .int .i64 r7.1.2.2]) (by simp [results, Tryz.results52, go_sem, d0, d1, d2]) rfl ?_
  have hs : xTurnS bad q v = (r7.1, r7.2) := by unfold xTurnS; simp only [E2.out, E3.out, E4.out, E5.out, E6.out, E7.out]
  rw [hs]
  exact ⟨rfl, (((f7.new (w.heap.size + 1 + 1) 0 (by omega) (.int .i64 r7.1.1)).new (w.heap.size + 1 + 1) 1 (by omega) (.int .i64 r7.1.2.1)).new (w.heap.size + 1 + 1) 2 (by omega) (.int .i64 r7.1.2.2)), (((K7.new _ _ (by omega) _).new _ _ (by omega) _).new _ _ (by omega) _)⟩
 refine wp_region_held_drew (S := fun w' => Arr (w.heap.size + 1) [.int .i64 v.1, .int .i64 v.2.1, .int .i64 v.2.2] w' ∧ Arr w3.heap.size [.int .i64 r3.1.1, .int .i64 r3.1.2.1, .int .i64 r3.1.2.2] w') (by kernel_rfl) ⟨(B1_3.alloc _).drew, (Arr_at _ _ [.int .i64 r3.1.1, .int .i64 r3.1.2.1, .int .i64 r3.1.2.2] _ (by simp)).drew⟩ (fun zH => ?_)
 refine zT 0 rfl (by kernel_rfl) (fun _ _ _ => id) rfl (fun _ _ => by go_simp <;> with_reducible rfl) zH ?_
 simp only [Act.put, zA, zB, zC]
 refine zT 1 rfl (by kernel_rfl) (fun _ _ _ => id) rfl (fun wx hS => by have hc0 : wx.cell? ⟨w.heap.size + 1, 0, none⟩ = some (.int .i64 v.1) := hS.1.c 0 (zD rfl); have hc1 : wx.cell? ⟨w.heap.size + 1, 1, none⟩ = some (.int .i64 v.2.1) := hS.1.c 1 (zD rfl); have hc2 : wx.cell? ⟨w.heap.size + 1, 2, none⟩ = some (.int .i64 v.2.2) := hS.1.c 2 (zD rfl); go_simp <;> with_reducible rfl) zH ?_
 simp only [Act.put, zA, zB, zC]
 refine zT 2 rfl (by kernel_rfl) (fun _ _ _ => id) rfl (fun _ _ => by go_simp <;> with_reducible rfl) zH ?_
 simp only [Act.put, zA, zB, zC]
 refine zT 3 rfl (by kernel_rfl) (fun _ _ _ => id) rfl (fun wx hS => by have hc0 : wx.cell? ⟨w3.heap.size, 0, none⟩ = some (.int .i64 r3.1.1) := hS.2.c 0 (zD rfl); have hc1 : wx.cell? ⟨w3.heap.size, 1, none⟩ = some (.int .i64 r3.1.2.1) := hS.2.c 1 (zD rfl); have hc2 : wx.cell? ⟨w3.heap.size, 2, none⟩ = some (.int .i64 r3.1.2.2) := hS.2.c 2 (zD rfl); go_simp <;> with_reducible rfl) zH ?_
 simp only [Act.put, zA, zB, zC]
 refine zT 4 rfl (by kernel_rfl) (fun _ _ _ => id) rfl (fun _ _ => by go_simp <;> with_reducible rfl) zH ?_
 simp only [Act.put, zA, zB, zC]
 refine call_at2 (i0 := 5) (i1 := 7) (by kernel_rfl) rfl rfl (fun K hK => ?_) (fun K hK => ?_)
 ·go_simp
  refine (uScale_any b r3.2 r3.1 q.2.2.2 _ (f3.alloc _).drew).mono ?_
  rintro e w4 ⟨rfl, f4, k4⟩
  generalize e4 : uScaleS r3.2 r3.1 q.2.2.2 = r4 at f4 ⊢
  have E4 : Hid _ := e4
  clear e4
  have K4 : Kept b w w4 := Kept.trans (K3.al _).drew k4
  have B0_4 := (B0_3.alloc _).drew.kept k4 (by omega)
  have B1_4 := (B1_3.alloc _).drew.kept k4 (by omega)
  have B2_4 := (B2_3.alloc _).drew.kept k4 (by omega)
  have B3_4 := (B3_3.alloc _).drew.kept k4 (by omega)
  have B4_4 : Arr w3.heap.size [.int .i64 r3.1.1, .int .i64 r3.1.2.1, .int .i64 r3.1.2.2] w4 := (Arr_at _ _ [.int .i64 r3.1.1, .int .i64 r3.1.2.1, .int .i64 r3.1.2.2] _ (by simp)).drew.kept k4 (by omega)
  have z4 := B4_4.lies
  clear zH
  refine hK.out _ _ ⟨B1_4, B4_4⟩ (fun zH => ?_)
  clear hK K K3 f3 B0_3 B1_3 B2_3 B3_3 k4
  refine call_at2 (i0 := 6) (i1 := 7) (by kernel_rfl) rfl rfl (fun K hK => ?_) (fun K hK => ?_)
  ·go_simp
   refine (uSub_any b r4.2 v r4.1 _ f4).mono ?_
   rintro e w5 ⟨rfl, f5, k5⟩
   generalize e5 : uSubS r4.2 v r4.1 = r5 at f5 ⊢
   have E5 : Hid _ := e5
   clear e5
   have K5 := Kept.trans K4 k5
   have B0_5 := B0_4.kept k5 (by omega)
   have B1_5 := B1_4.kept k5 (by omega)
   have B2_5 := B2_4.kept k5 (by omega)
   have B3_5 := B3_4.kept k5 (by omega)
   have B4_5 := B4_4.kept k5 (by omega)
   have z5 := B4_5.lies
   clear zH
   refine hK.out _ _ ⟨B1_5, B4_5⟩ (fun zH => ?_)
   clear hK K K4 f4 B0_4 B1_4 B2_4 B3_4 B4_4 k5
   refine zK 7 (by kernel_rfl) rfl (fun K hK => ?_)
   go_simp
   clear zH
   refine hK.out _ _ ⟨(B1_5.alloc _), (B4_5.alloc _)⟩ (fun zH => ?_)
   clear hK K
   refine zK 8 (by kernel_rfl) rfl (fun K hK => ?_)
   go_simp
   clear zH
   refine hK.out _ _ ⟨(B1_5.alloc _), (B4_5.alloc _)⟩ (fun zH => ?_)
   clear hK K
   refine wpAnyH_done (by kernel_rfl) ?_ _
   clear zH
   exact cont2 _ _ _ _ _ _ _ _ _ _ _ _ _ _ _ _ _ _ _ w5.heap.size r4 r5 E4 E5 (K5.al _) (f5.alloc _) (B0_5.alloc _) (B1_5.alloc _) (B2_5.alloc _) (B3_5.alloc _) (B4_5.alloc _) (Arr_at _ _ [.int .i64 r5.1.1, .int .i64 r5.1.2.1, .int .i64 r5.1.2.2] _ (by simp)) (by omega) (by omega) (by omega) (by omega) (by omega) (by omega) (by omega)
  ·go_simp
   clear zH
   refine hK.out _ _ ⟨(B1_4.alloc _), (B4_4.alloc _)⟩ (fun zH => ?_)
   clear hK K
   refine zK 6 (by kernel_rfl) rfl (fun K hK => ?_)
   go_simp
   refine (uSub_any b r4.2 v r4.1 _ (f4.alloc _)).mono ?_
   rintro e w5 ⟨rfl, f5, k5⟩
   generalize e5 : uSubS r4.2 v r4.1 = r5 at f5 ⊢
   have E5 : Hid _ := e5
   clear e5
   have K5 : Kept b w w5 := Kept.trans (K4.al _) k5
   have B0_5 := (B0_4.alloc _).kept k5 (by omega)
   have B1_5 := (B1_4.alloc _).kept k5 (by omega)
   have B2_5 := (B2_4.alloc _).kept k5 (by omega)
   have B3_5 := (B3_4.alloc _).kept k5 (by omega)
   have B4_5 := (B4_4.alloc _).kept k5 (by omega)
   have B5_5 : Arr w4.heap.size [.int .i64 0, .int .i64 0, .int .i64 0] w5 := (Arr_at _ _ [.int .i64 0, .int .i64 0, .int .i64 0] _ (by simp)).kept k5 (by omega)
   have z5 := B5_5.lies
   clear zH
   refine hK.out _ _ ⟨B1_5, B4_5⟩ (fun zH => ?_)
   clear hK K K4 f4 B0_4 B1_4 B2_4 B3_4 B4_4 k5
   refine zK 8 (by kernel_rfl) rfl (fun K hK => ?_)
   have c6_B5_0 : w5.cell? ⟨w4.heap.size, 0, none⟩ = some (.int .i64 0) := B5_5.c 0 (zD rfl)
   have c6_B5_1 : w5.cell? ⟨w4.heap.size, 1, none⟩ = some (.int .i64 0) := B5_5.c 1 (zD rfl)
   have c6_B5_2 : w5.cell? ⟨w4.heap.size, 2, none⟩ = some (.int .i64 0) := B5_5.c 2 (zD rfl)
   have g6_B5_0 := B5_5.f 0 (zD rfl)
   have g6_B5_1 := B5_5.f 1 (zD rfl)
   have g6_B5_2 := B5_5.f 2 (zD rfl)
   go_simp
   clear zH
   refine hK.out _ _ ⟨(((B1_5.new w4.heap.size 0 (by omega) (.int .i64 r5.1.1)).new w4.heap.size 1 (by omega) (.int .i64 r5.1.2.1)).new w4.heap.size 2 (by omega) (.int .i64 r5.1.2.2)), (((B4_5.new w4.heap.size 0 (by omega) (.int .i64 r5.1.1)).new w4.heap.size 1 (by omega) (.int .i64 r5.1.2.1)).new w4.heap.size 2 (by omega) (.int .i64 r5.1.2.2))⟩ (fun zH => ?_)
   clear hK K c6_B5_0 c6_B5_1 c6_B5_2 g6_B5_0 g6_B5_1 g6_B5_2
   refine wpAnyH_done (by kernel_rfl) ?_ _
   clear zH
   exact cont2 _ _ _ _ _ _ _ _ _ _ _ _ _ _ _ _ _ _ _ w4.heap.size r4 r5 E4 E5 (((K5.new _ _ (by omega) _).new _ _ (by omega) _).new _ _ (by omega) _) (((f5.new w4.heap.size 0 (by omega) (.int .i64 r5.1.1)).new w4.heap.size 1 (by omega) (.int .i64 r5.1.2.1)).new w4.heap.size 2 (by omega) (.int .i64 r5.1.2.2)) (((B0_5.new w4.heap.size 0 (by omega) (.int .i64 r5.1.1)).new w4.heap.size 1 (by omega) (.int .i64 r5.1.2.1)).new w4.heap.size 2 (by omega) (.int .i64 r5.1.2.2)) (((B1_5.new w4.heap.size 0 (by omega) (.int .i64 r5.1.1)).new w4.heap.size 1 (by omega) (.int .i64 r5.1.2.1)).new w4.heap.size 2 (by omega) (.int .i64 r5.1.2.2)) (((B2_5.new w4.heap.size 0 (by omega) (.int .i64 r5.1.1)).new w4.heap.size 1 (by omega) (.int .i64 r5.1.2.1)).new w4.heap.size 2 (by omega) (.int .i64 r5.1.2.2)) (((B3_5.new w4.heap.size 0 (by omega) (.int .i64 r5.1.1)).new w4.heap.size 1 (by omega) (.int .i64 r5.1.2.1)).new w4.heap.size 2 (by omega) (.int .i64 r5.1.2.2)) (((B4_5.new w4.heap.size 0 (by omega) (.int .i64 r5.1.1)).new w4.heap.size 1 (by omega) (.int .i64 r5.1.2.1)).new w4.heap.size 2 (by omega) (.int .i64 r5.1.2.2)) (((B5_5.put 0 (zD rfl) (.int .i64 r5.1.1) [.int .i64 r5.1.1, .int .i64 0, .int .i64 0] rfl).put 1 (zD rfl) (.int .i64 r5.1.2.1) [.int .i64 r5.1.1, .int .i64 r5.1.2.1, .int .i64 0] rfl).put 2 (zD rfl) (.int .i64 r5.1.2.2) [.int .i64 r5.1.1, .int .i64 r5.1.2.1, .int .i64 r5.1.2.2] rfl) (by omega) (by omega) (by omega) (by omega) (by omega) (by omega) (by omega)
 ·go_simp
  clear zH
  refine hK.out _ _ ⟨((B1_3.alloc _).drew.alloc _), ((Arr_at _ _ [.int .i64 r3.1.1, .int .i64 r3.1.2.1, .int .i64 r3.1.2.2] _ (by simp)).drew.alloc _)⟩ (fun zH => ?_)
  clear hK K
  refine zK 5 (by kernel_rfl) rfl (fun K hK => ?_)
  go_simp
  refine (uScale_any b r3.2 r3.1 q.2.2.2 _ ((f3.alloc _).drew.alloc _)).mono ?_
  rintro e w4 ⟨rfl, f4, k4⟩
  generalize e4 : uScaleS r3.2 r3.1 q.2.2.2 = r4 at f4 ⊢
  have E4 : Hid _ := e4
  clear e4
  have K4 : Kept b w w4 := Kept.trans ((K3.al _).drew.al _) k4
  have B0_4 := ((B0_3.alloc _).drew.alloc _).kept k4 (by omega)
  have B1_4 := ((B1_3.alloc _).drew.alloc _).kept k4 (by omega)
  have B2_4 := ((B2_3.alloc _).drew.alloc _).kept k4 (by omega)
  have B3_4 := ((B3_3.alloc _).drew.alloc _).kept k4 (by omega)
  have B4_4 : Arr w3.heap.size [.int .i64 r3.1.1, .int .i64 r3.1.2.1, .int .i64 r3.1.2.2] w4 := ((Arr_at _ _ [.int .i64 r3.1.1, .int .i64 r3.1.2.1, .int .i64 r3.1.2.2] _ (by simp)).drew.alloc _).kept k4 (by omega)
  have B5_4 : Arr (w3.heap.size + 1) [.int .i64 0, .int .i64 0, .int .i64 0] w4 := (Arr_at _ _ [.int .i64 0, .int .i64 0, .int .i64 0] _ (by simp)).kept k4 (by omega)
  have z4 := B5_4.lies
  clear zH
  refine hK.out _ _ ⟨B1_4, B4_4⟩ (fun zH => ?_)
  clear hK K K3 f3 B0_3 B1_3 B2_3 B3_3 k4
  refine zK 6 (by kernel_rfl) rfl (fun K hK => ?_)
  go_simp
  refine (uSub_any b r4.2 v r4.1 _ f4).mono ?_
  rintro e w5 ⟨rfl, f5, k5⟩
  generalize e5 : uSubS r4.2 v r4.1 = r5 at f5 ⊢
  have E5 : Hid _ := e5
  clear e5
  have K5 := Kept.trans K4 k5
  have B0_5 := B0_4.kept k5 (by omega)
  have B1_5 := B1_4.kept k5 (by omega)
  have B2_5 := B2_4.kept k5 (by omega)
  have B3_5 := B3_4.kept k5 (by omega)
  have B4_5 := B4_4.kept k5 (by omega)
  have B5_5 := B5_4.kept k5 (by omega)
  have z5 := B5_5.lies
  clear zH
  refine hK.out _ _ ⟨B1_5, B4_5⟩ (fun zH => ?_)
  clear hK K K4 f4 B0_4 B1_4 B2_4 B3_4 B4_4 B5_4 k5
  refine zK 8 (by kernel_rfl) rfl (fun K hK => ?_)
  have c6_B5_0 : w5.cell? ⟨w3.heap.size + 1, 0, none⟩ = some (.int .i64 0) := B5_5.c 0 (zD rfl)
  have c6_B5_1 : w5.cell? ⟨w3.heap.size + 1, 1, none⟩ = some (.int .i64 0) := B5_5.c 1 (zD rfl)
  have c6_B5_2 : w5.cell? ⟨w3.heap.size + 1, 2, none⟩ = some (.int .i64 0) := B5_5.c 2 (zD rfl)
  have g6_B5_0 := B5_5.f 0 (zD rfl)
  have g6_B5_1 := B5_5.f 1 (zD rfl)
  have g6_B5_2 := B5_5.f 2 (zD rfl)
  go_simp
  clear zH
  refine hK.out _ _ ⟨(((B1_5.new (w3.heap.size + 1) 0 (by omega) (.int .i64 r5.1.1)).new (w3.heap.size + 1) 1 (by omega) (.int .i64 r5.1.2.1)).new (w3.heap.size + 1) 2 (by omega) (.int .i64 r5.1.2.2)), (((B4_5.new (w3.heap.size + 1) 0 (by omega) (.int .i64 r5.1.1)).new (w3.heap.size + 1) 1 (by omega) (.int .i64 r5.1.2.1)).new (w3.heap.size + 1) 2 (by omega) (.int .i64 r5.1.2.2))⟩ (fun zH => ?_)
  clear hK K c6_B5_0 c6_B5_1 c6_B5_2 g6_B5_0 g6_B5_1 g6_B5_2
  refine wpAnyH_done (by kernel_rfl) ?_ _
  clear zH
  exact cont2 _ _ _ _ _ _ _ _ _ _ _ _ _ _ _ _ _ _ _ (w3.heap.size + 1) r4 r5 E4 E5 (((K5.new _ _ (by omega) _).new _ _ (by omega) _).new _ _ (by omega) _) (((f5.new (w3.heap.size + 1) 0 (by omega) (.int .i64 r5.1.1)).new (w3.heap.size + 1) 1 (by omega) (.int .i64 r5.1.2.1)).new (w3.heap.size + 1) 2 (by omega) (.int .i64 r5.1.2.2)) (((B0_5.new (w3.heap.size + 1) 0 (by omega) (.int .i64 r5.1.1)).new (w3.heap.size + 1) 1 (by omega) (.int .i64 r5.1.2.1)).new (w3.heap.size + 1) 2 (by omega) (.int .i64 r5.1.2.2)) (((B1_5.new (w3.heap.size + 1) 0 (by omega) (.int .i64 r5.1.1)).new (w3.heap.size + 1) 1 (by omega) (.int .i64 r5.1.2.1)).new (w3.heap.size + 1) 2 (by omega) (.int .i64 r5.1.2.2)) (((B2_5.new (w3.heap.size + 1) 0 (by omega) (.int .i64 r5.1.1)).new (w3.heap.size + 1) 1 (by omega) (.int .i64 r5.1.2.1)).new (w3.heap.size + 1) 2 (by omega) (.int .i64 r5.1.2.2)) (((B3_5.new (w3.heap.size + 1) 0 (by omega) (.int .i64 r5.1.1)).new (w3.heap.size + 1) 1 (by omega) (.int .i64 r5.1.2.1)).new (w3.heap.size + 1) 2 (by omega) (.int .i64 r5.1.2.2)) (((B4_5.new (w3.heap.size + 1) 0 (by omega) (.int .i64 r5.1.1)).new (w3.heap.size + 1) 1 (by omega) (.int .i64 r5.1.2.1)).new (w3.heap.size + 1) 2 (by omega) (.int .i64 r5.1.2.2)) (((B5_5.put 0 (zD rfl) (.int .i64 r5.1.1) [.int .i64 r5.1.1, .int .i64 0, .int .i64 0] rfl).put 1 (zD rfl) (.int .i64 r5.1.2.1) [.int .i64 r5.1.1, .int .i64 r5.1.2.1, .int .i64 0] rfl).put 2 (zD rfl) (.int .i64 r5.1.2.2) [.int .i64 r5.1.1, .int .i64 r5.1.2.1, .int .i64 r5.1.2.2] rfl) (by omega) (by omega) (by omega) (by omega) (by omega) (by omega) (by omega)
end Go.Proofs.YtpjobkbefgehjaaGreat
namespace Go.Proofs.YtpjobkbefgehjaaGreat
open Go.RowKit
set_option maxRecDepth 100000
set_option maxHeartbeats 20000000
theorem yMul_any (b : Nat) (bad : Bool) (p : V4) (q : V4) (w : World) (hw : Fl b bad w) :
  Calls Tryz.prog 30 #[.pointer (some ⟨b, 0, none⟩), .agg #[.int .i64 p.1, .int .i64 p.2.1, .int .i64 p.2.2.1, .int .i64 p.2.2.2], .agg #[.int .i64 q.1, .int .i64 q.2.1, .int .i64 q.2.2.1, .int .i64 q.2.2.2]] w fun e w' => e = .returned (.agg #[.int .i64 ((qMulS bad p q).1.1), .int .i64 ((qMulS bad p q).1.2.1), .int .i64 ((qMulS bad p q).1.2.2.1), .int .i64 ((qMulS bad p q).1.2.2.2)]) ∧ Fl b (qMulS bad p q).2 w' ∧ Kept b w w' := by
 have h := xMul_any b bad p q w hw
 rw [xMul_eq] at h
 exact h
theorem yUnit_any (b : Nat) (bad : Bool) (q : V4) (w : World) (hw : Fl b bad w) :
  Calls Tryz.prog 33 #[.pointer (some ⟨b, 0, none⟩), .agg #[.int .i64 q.1, .int .i64 q.2.1, .int .i64 q.2.2.1, .int .i64 q.2.2.2]] w fun e w' => e = .returned (.agg #[.int .i64 ((qUnitS bad q).1.1), .int .i64 ((qUnitS bad q).1.2.1), .int .i64 ((qUnitS bad q).1.2.2.1), .int .i64 ((qUnitS bad q).1.2.2.2)]) ∧ Fl b (qUnitS bad q).2 w' ∧ Kept b w w' := by
 have h := xUnit_any b bad q w hw
 rw [xUnit_eq] at h
 exact h
theorem yFromRod_any (b : Nat) (bad : Bool) (p : V3) (w : World) (hw : Fl b bad w) :
  Calls Tryz.prog 31 #[.pointer (some ⟨b, 0, none⟩), .agg #[.int .i64 p.1, .int .i64 p.2.1, .int .i64 p.2.2]] w fun e w' => e = .returned (.agg #[.int .i64 ((qFromRodS bad p).1.1), .int .i64 ((qFromRodS bad p).1.2.1), .int .i64 ((qFromRodS bad p).1.2.2.1), .int .i64 ((qFromRodS bad p).1.2.2.2)]) ∧ Fl b (qFromRodS bad p).2 w' ∧ Kept b w w' := by
 have h := xFromRod_any b bad p w hw
 rw [xFromRod_eq] at h
 exact h
end Go.Proofs.YtpjobkbefgehjaaGreat
namespace Go.Proofs.YtpjobkbefgehjaaGreat
open Go.RowKit
set_option maxRecDepth 100000
set_option maxHeartbeats 20000000
theorem yTurn_any (b : Nat) (bad : Bool) (q : V4) (v : V3) (w : World) (hw : Fl b bad w) :
  Calls Tryz.prog 52 #[.pointer (some ⟨b, 0, none⟩), .agg #[.int .i64 q.1, .int .i64 q.2.1, .int .i64 q.2.2.1, .int .i64 q.2.2.2], .agg #[.int .i64 v.1, .int .i64 v.2.1, .int .i64 v.2.2]] w fun e w' => e = .returned (.agg #[.int .i64 ((qTurnS bad q v).1.1), .int .i64 ((qTurnS bad q v).1.2.1), .int .i64 ((qTurnS bad q v).1.2.2)]) ∧ Fl b (qTurnS bad q v).2 w' ∧ Kept b w w' := by
 have h := xTurn_any b bad q v w hw
 rw [xTurn_eq] at h
 exact h
theorem yvUnit_any (b : Nat) (bad : Bool) (p : V3) (w : World) (hw : Fl b bad w) :
  Calls Tryz.prog 50 #[.pointer (some ⟨b, 0, none⟩), .agg #[.int .i64 p.1, .int .i64 p.2.1, .int .i64 p.2.2]] w fun e w' => e = .returned (.agg #[.int .i64 ((vUnitS bad p).1.1), .int .i64 ((vUnitS bad p).1.2.1), .int .i64 ((vUnitS bad p).1.2.2)]) ∧ Fl b (vUnitS bad p).2 w' ∧ Kept b w w' := by
 have h := uUnit_any b bad p w hw
 rw [uUnit_eq] at h
 exact h
end Go.Proofs.YtpjobkbefgehjaaGreat
