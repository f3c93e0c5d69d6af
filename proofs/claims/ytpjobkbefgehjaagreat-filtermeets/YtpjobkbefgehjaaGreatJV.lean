/- A part. -/
import Derived.Test.YtpjobkbefgehjaaGreatJS
import Derived.Test.YtpjobkbefgehjaaGreatJC
import Derived.Test.YtpjobkbefgehjaaGreatJT
import Derived.Test.YtpjobkbefgehjaaGreatJU
import Derived.Test.YtpjobkbefgehjaaGreatJA
import Derived.Test.YtpjobkbefgehjaaGreatJX
import Derived.Handy
import Derived.Deep.RegionHeld3
namespace Go.Proofs.YtpjobkbefgehjaaGreat
open Go.RowKit
set_option maxRecDepth 100000
set_option maxHeartbeats 20000000
theorem ffirst_x (r : Nat → Int) (w : World) :
  Calls Tryz.prog 40 #[.agg #[.int .i64 (r 0), .int .i64 (r 1), .int .i64 (r 2), .int .i64 (r 3), .int .i64 (r 4), .int .i64 (r 5)]] w fun e w' => e = .returned (.agg #[.int .i64 (ffirstP r).1, .int .i64 (ffirstP r).2.1, .int .i64 (ffirstP r).2.2]) ∧ Below w.heap.size w w' := by
 go_enter Tryz.func40, Tryz.ntmps40
 have y2_B0 : w.heap.size < w.heap.size + 1 := by omega
 go_wp2_with (with_reducible refine post_stop ?_)
 refine Stop.mk ?_
 refine bodyPost_ret (v := .agg #[.int .i64 (r 0), .int .i64 (r 1), .int .i64 (r 2)]) (results_arr Tryz.results40 (Arr_at _ _ [.int .i64 (r 0), .int .i64 (r 1), .int .i64 (r 2)] _ (by simp)) rfl (by kernel_rfl) (by kernel_rfl)) rfl ?_
 have hs : ffirstP r = ((r 0), (r 1), (r 2)) := rfl
 rw [hs]
 exact ⟨rfl, (bel_al (bel_al (Below.refl w.heap.size w) _) _)⟩
theorem ffirst_any (r : Nat → Int) (w : World) :
  Calls Tryz.prog 40 #[.agg (row 6 r).toArray] w fun e w' => e = .returned (.agg #[.int .i64 ((ffirstP r).1), .int .i64 ((ffirstP r).2.1), .int .i64 ((ffirstP r).2.2)]) ∧ Below w.heap.size w w' := ffirst_x r w
theorem flast_x (r : Nat → Int) (w : World) :
  Calls Tryz.prog 28 #[.agg #[.int .i64 (r 0), .int .i64 (r 1), .int .i64 (r 2), .int .i64 (r 3), .int .i64 (r 4), .int .i64 (r 5)]] w fun e w' => e = .returned (.agg #[.int .i64 (flastP r).1, .int .i64 (flastP r).2.1, .int .i64 (flastP r).2.2]) ∧ Below w.heap.size w w' := by
 go_enter Tryz.func28, Tryz.ntmps28
 have y2_B0 : w.heap.size < w.heap.size + 1 := by omega
 go_wp2_with (with_reducible refine post_stop ?_)
 refine Stop.mk ?_
 refine bodyPost_ret (v := .agg #[.int .i64 (r 3), .int .i64 (r 4), .int .i64 (r 5)]) (results_arr Tryz.results28 (Arr_at _ _ [.int .i64 (r 3), .int .i64 (r 4), .int .i64 (r 5)] _ (by simp)) rfl (by kernel_rfl) (by kernel_rfl)) rfl ?_
 have hs : flastP r = ((r 3), (r 4), (r 5)) := rfl
 rw [hs]
 exact ⟨rfl, (bel_al (bel_al (Below.refl w.heap.size w) _) _)⟩
theorem flast_any (r : Nat → Int) (w : World) :
  Calls Tryz.prog 28 #[.agg (row 6 r).toArray] w fun e w' => e = .returned (.agg #[.int .i64 ((flastP r).1), .int .i64 ((flastP r).2.1), .int .i64 ((flastP r).2.2)]) ∧ Below w.heap.size w w' := flast_x r w
theorem fpair_any (p : V3) (q : V3) (w : World) :
  Calls Tryz.prog 51 #[.agg #[.int .i64 p.1, .int .i64 p.2.1, .int .i64 p.2.2], .agg #[.int .i64 q.1, .int .i64 q.2.1, .int .i64 q.2.2]] w fun e w' => e = .returned (.agg #[.int .i64 (fpairP p q).1, .int .i64 (fpairP p q).2.1, .int .i64 (fpairP p q).2.2.1, .int .i64 (fpairP p q).2.2.2.1, .int .i64 (fpairP p q).2.2.2.2.1, .int .i64 (fpairP p q).2.2.2.2.2]) ∧ Below w.heap.size w w' := by
 go_enter Tryz.func51, Tryz.ntmps51
 have y2_B0 : w.heap.size < w.heap.size + 1 := by omega
 have y3_B0 : w.heap.size < w.heap.size + 1 + 1 := by omega
 have y3_B1 : w.heap.size + 1 < w.heap.size + 1 + 1 := by omega
 go_wp2_with (with_reducible refine post_stop ?_)
 refine Stop.mk ?_
 refine bodyPost_ret (v := .agg #[.int .i64 p.1, .int .i64 p.2.1, .int .i64 p.2.2, .int .i64 q.1, .int .i64 q.2.1, .int .i64 q.2.2]) (results_arr Tryz.results51 (Arr_at _ _ [.int .i64 p.1, .int .i64 p.2.1, .int .i64 p.2.2, .int .i64 q.1, .int .i64 q.2.1, .int .i64 q.2.2] _ (by simp)) rfl (by kernel_rfl) (by kernel_rfl)) rfl ?_
 have hs : fpairP p q = (p.1, p.2.1, p.2.2, q.1, q.2.1, q.2.2) := rfl
 rw [hs]
 exact ⟨rfl, (bel_al (bel_al (bel_al (Below.refl w.heap.size w) _) _) _)⟩
end Go.Proofs.YtpjobkbefgehjaaGreat
namespace Go.Proofs.YtpjobkbefgehjaaGreat
open Go.RowKit
set_option maxRecDepth 100000
set_option maxHeartbeats 20000000
theorem fmean_any (b : Nat) (bad : Bool) (x : Nat → Int) (i : Nat) (w : World) (hw : Fl b bad w) (hi : i < 6) :
  Calls Tryz.prog 36 #[.pointer (some ⟨b, 0, none⟩), .agg (row 78 x).toArray, .int .i64 (i : Int)] w fun e w' => e = .returned (.int .i64 ((fmeanS bad x i).1)) ∧ Fl b (fmeanS bad x i).2 w' ∧ Kept b w w' := by
 have hl := hw.lies
 go_enter Tryz.func36, Tryz.ntmps36
 have y1_BF := hw.lies
 go_wp2_with fail
 refine wp_region_held_drew (S := fun w' => Arr w.heap.size (row 78 x) w') (by kernel_rfl) (Arr_at _ _ (row 78 x) _ (by simp)).drew (fun zH => ?_)
 refine zT 0 rfl (by kernel_rfl) (fun _ _ _ => id) rfl (fun _ _ => by go_simp <;> with_reducible rfl) zH ?_
 simp only [Act.put, zA, zB, zC]
 refine zT 1 rfl (by kernel_rfl) (fun _ _ _ => id) rfl (fun _ _ => by go_simp <;> with_reducible rfl) zH ?_
 simp only [Act.put, zA, zB, zC]
 refine zT 2 rfl (by kernel_rfl) (fun _ _ _ => id) rfl (fun _ _ => by go_simp <;> with_reducible rfl) zH ?_
 simp only [Act.put, zA, zB, zC]
 refine zT 3 rfl (by kernel_rfl) (fun _ _ _ => id) rfl (fun _ _ => by go_simp <;> with_reducible rfl) zH ?_
 simp only [Act.put, zA, zB, zC]
 refine zT 4 rfl (by kernel_rfl) (fun _ _ _ => id) rfl (fun _ _ => by have hi0 : (i : Int) < 6 := (by omega); go_simp <;> with_reducible rfl) zH ?_
 simp only [Act.put, zA, zB, zC]
 refine zT 5 rfl (by kernel_rfl) (fun _ _ _ => id) rfl (fun wx hS => by have hc0 : wx.cell? ⟨w.heap.size, i, none⟩ = some (.int .i64 (x i)) := row_c hS i (by omega); go_simp <;> with_reducible rfl) zH ?_
 simp only [Act.put, zA, zB, zC]
 refine zT 7 rfl (by kernel_rfl) (fun _ _ _ => id) rfl (fun _ _ => by go_simp <;> with_reducible rfl) zH ?_
 simp only [Act.put, zA, zB, zC]
 refine zT 8 rfl (by kernel_rfl) (fun _ _ _ => id) rfl (fun _ _ => by go_simp <;> with_reducible rfl) zH ?_
 simp only [Act.put, zA, zB, zC]
 refine zT 9 rfl (by kernel_rfl) (fun _ _ _ => id) rfl (fun _ _ => by have hi0 : (i : Int) < 6 := (by omega); go_simp <;> with_reducible rfl) zH ?_
 simp only [Act.put, zA, zB, zC]
 refine zT 10 rfl (by kernel_rfl) (fun _ _ _ => id) rfl (fun wx hS => by have hc0 : wx.cell? ⟨w.heap.size, i, none⟩ = some (.int .i64 (x i)) := row_c hS i (by omega); go_simp <;> with_reducible rfl) zH ?_
 simp only [Act.put, zA, zB, zC]
 refine zK 6 (by kernel_rfl) rfl (fun K hK => ?_)
 go_simp
 refine (rAdd_any b bad 0 (x i) _ (hw.alloc _).drew).mono ?_
 rintro e w1 ⟨rfl, f1, k1⟩
 generalize e1 : addS bad 0 (x i) = r1 at f1 ⊢
 have E1 : Hid _ := e1
 clear e1
 have K1 : Kept b w w1 := Kept.trans ((Kept.refl b w).al _).drew k1
 have B0_1 := (Arr_at _ w.heap.size (row 78 x) _ (by simp)).drew.kept k1 (zG y1_BF)
 have z1 := B0_1.lies
 clear zH
 refine hK.out _ _ B0_1 (fun zH => ?_)
 clear hK K k1
 refine zK 11 (by kernel_rfl) rfl (fun K hK => ?_)
 go_simp
 refine (rAdd_any b r1.2 r1.1 (x i) _ f1).mono ?_
 rintro e w2 ⟨rfl, f2, k2⟩
 generalize e2 : addS r1.2 r1.1 (x i) = r2 at f2 ⊢
 have E2 : Hid _ := e2
 clear e2
 have K2 := Kept.trans K1 k2
 have B0_2 := B0_1.kept k2 (zG y1_BF)
 have z2 := B0_2.lies
 clear zH
 refine hK.out _ _ B0_2 (fun zH => ?_)
 clear hK K K1 f1 B0_1 k2
 refine zT 12 rfl (by kernel_rfl) (fun _ _ _ => id) rfl (fun _ _ => by go_simp <;> with_reducible rfl) zH ?_
 simp only [Act.put, zA, zB, zC]
 refine wpAnyH_done (by kernel_rfl) ?_ _
 clear zH
 go_wp2_with fail
 obtain ⟨J0, hJ0⟩ : ∃ J : Nat → Act → World → Prop, Hid (J = fun k a Wl0 => ∀ G_ : Prop, (∀ (s0 : Int × Bool) (m1 m3 m5 m6 m9 m10 m11 m12 m13 m14 m15 m16 m17 m18 m19 m20 m21 m22 m23 m24 m25 m26 m27 m28 m29 m30 m31 m32 m33 m34 m35 : Value), Hid (fmeanS_l0 x i (r2.1, r2.2) k = s0) → a = { tmps := #[.pointer (some ⟨b, 0, none⟩), m1, .int .i64 (i : Int), m3, .pointer (some ⟨w.heap.size, 0, none⟩), m5, m6, .int .i64 s0.1, .int .i64 ((k + 1 : Nat) : Int), m9, m10, m11, m12, m13, m14, m15, m16, m17, m18, m19, m20, m21, m22, m23, m24, m25, m26, m27, m28, m29, m30, m31, m32, m33, m34, m35], defers := [] } → Kept b w Wl0 → Fl b s0.2 Wl0 → Arr w.heap.size (row 78 x) Wl0 → G_) → G_) := ⟨_, rfl⟩
 refine rounds_up J0 12 ?_ ?_ ?_
 ·rw [hJ0.out]
  intro G_ hG_
  exact hG_ (r2.1, r2.2) _ _ _ _ _ _ _ _ _ _ _ _ _ _ _ _ _ _ _ _ _ _ _ _ _ _ _ _ _ _ _ rfl rfl K2 f2 B0_2
 ·intro k a Wl0 hk hI R hR
  rw [hJ0.out] at hI
  refine hI _ ?_
  clear hI
  intro s0 m1 m3 m5 m6 m9 m10 m11 m12 m13 m14 m15 m16 m17 m18 m19 m20 m21 m22 m23 m24 m25 m26 m27 m28 m29 m30 m31 m32 m33 m34 m35 El0 ea Kl0 BF_l0 B0_l0
  subst ea
  have zl0_BF := BF_l0.lies
  have zl0_B0 := B0_l0.lies
  have c3_B0_0 : Wl0.cell? ⟨w.heap.size, (k + 1 : Nat) * 6 + i, none⟩ = some (.int .i64 (x ((k + 1 : Nat) * 6 + i))) := row_c B0_l0 ((k + 1 : Nat) * 6 + i) (by omega)
  have i3_1 : ((k + 1 : Nat) : Int) < 13 := by omega
  have i3_2 : (i : Int) < 6 := by omega
  go_wp2_with fail
  refine (rAdd_any b s0.2 s0.1 (x ((k + 1 : Nat) * 6 + i)) _ BF_l0).mono ?_
  rintro e w3 ⟨rfl, f3, k3⟩
  generalize e3 : addS s0.2 s0.1 (x ((k + 1 : Nat) * 6 + i)) = r3 at f3 ⊢
  have E3 : Hid _ := e3
  clear e3
  try dsimp only
  have K3 : Kept b w w3 := Kept.trans Kl0 k3
  have B0_3 := B0_l0.kept k3 (zG y1_BF)
  have z3 := B0_3.lies
  clear c3_B0_0 i3_1 i3_2 BF_l0 B0_l0 k3
  go_wp2_with fail
  have hs0 : Hid (fmeanS_l0 x i (r2.1, r2.2) (k + 1) = (r3.1, r3.2)) := by show _ = _; rw [fmeanS_l0_succ]; unfold fmeanS_l0s; simp only [El0.out, E3.out]
  rw [hJ0.out]
  intro G_ hG_
  exact hG_ (r3.1, r3.2) _ _ _ _ _ _ _ _ _ _ _ _ _ _ _ _ _ _ _ _ _ _ _ _ _ _ _ _ _ _ _ hs0 rfl K3 f3 B0_3
 ·intro a Wl0 hI R
  rw [hJ0.out] at hI
  refine hI _ ?_
  clear hI hJ0
  intro r4 m1 m3 m5 m6 m9 m10 m11 m12 m13 m14 m15 m16 m17 m18 m19 m20 m21 m22 m23 m24 m25 m26 m27 m28 m29 m30 m31 m32 m33 m34 m35 E4 ea Kl0 BF_l0 B0_l0
  subst ea
  have zl0_BF := BF_l0.lies
  have zl0_B0 := B0_l0.lies
  go_wp2_with fail
  refine (rPart_any b r4.2 r4.1 1 14 _ BF_l0).mono ?_
  rintro e w5 ⟨rfl, f5, k5⟩
  generalize e5 : partS r4.2 r4.1 1 14 = r5 at f5 ⊢
  have E5 : Hid _ := e5
  clear e5
  try dsimp only
  have K5 : Kept b w w5 := Kept.trans Kl0 k5
  have B0_5 := B0_l0.kept k5 (zG y1_BF)
  have z5 := B0_5.lies
  clear BF_l0 B0_l0 k5
  go_wp2
  go_ret
  have hs : fmeanS bad x i = (r5.1, r5.2) := by unfold fmeanS; simp only [E1.out, E2.out, E4.out, E5.out]
  rw [hs]
  exact ⟨rfl, f5, K5⟩
end Go.Proofs.YtpjobkbefgehjaaGreat
namespace Go.Proofs.YtpjobkbefgehjaaGreat
open Go.RowKit
set_option maxRecDepth 100000
set_option maxHeartbeats 20000000
theorem fproducts_any (b : Nat) (bad : Bool) (x : Nat → Int) (i : Nat) (y : Nat → Int) (j : Nat) (w : World) (hw : Fl b bad w) (hi : i < 6) (hj : j < 6) :
  Calls Tryz.prog 38 #[.pointer (some ⟨b, 0, none⟩), .agg (row 78 x).toArray, .int .i64 (i : Int), .agg (row 78 y).toArray, .int .i64 (j : Int)] w fun e w' => e = .returned (.int .i64 ((fproductsS bad x i y j).1)) ∧ Fl b (fproductsS bad x i y j).2 w' ∧ Kept b w w' := by
 have hl := hw.lies
 go_enter Tryz.func38, Tryz.ntmps38
 have y1_BF := hw.lies
 have y2_BF : b < w.heap.size + 1 := (Nat.lt_succ_of_lt hw.lies)
 have y2_B0 : w.heap.size < w.heap.size + 1 := by omega
 have y3_BF : b < w.heap.size + 1 + 1 := (Nat.lt_succ_of_lt (Nat.lt_succ_of_lt hw.lies))
 have y3_B0 : w.heap.size < w.heap.size + 1 + 1 := by omega
 have y3_B1 : w.heap.size + 1 < w.heap.size + 1 + 1 := by omega
 go_wp2_with (refine store_stop rfl (by kernel_rfl) ?_)
 refine Stop.mk (store_row (l' := row 78 (fun _ => 0)) rfl rfl rfl rfl (Arr_at _ _ (row 78 (fun _ => 0)) _ (by simp)) (by simp only [row_len]) (by rw [row_len]; kernel_rfl) (row_one _ _) ?_)
 intro w1 B2_1 o1
 have K1 : Kept b w w1 := Kept.off ((((Kept.refl b w).al _).al _).al _) o1 (by omega)
 have BF_1 := (((hw.alloc _).alloc _).alloc _).off o1 (zL y3_BF)
 have B0_1 := (((Arr_at _ w.heap.size (row 78 x) _ (by simp)).alloc _).alloc _).off o1 (zL y3_B0)
 have B1_1 := ((Arr_at _ (w.heap.size + 1) (row 78 y) _ (by simp)).alloc _).off o1 (zL y3_B1)
 have z1_B2 := B2_1.lies
 have z1_BF := BF_1.lies
 have z1_B0 := B0_1.lies
 have z1_B1 := B1_1.lies
 clear o1
 go_wp2_with fail
 obtain ⟨J0, hJ0⟩ : ∃ J : Nat → Act → World → Prop, Hid (J = fun k a Wl0 => ∀ G_ : Prop, (∀ (s0 : (Nat → Int) × Bool) (m1 m3 m5 m7 m9 m10 m13 m14 m15 m16 m17 m18 m19 m20 m21 m22 m23 m24 m25 m26 m27 m28 m29 m30 m31 m32 m33 m34 m35 : Value), Hid (fproductsS_l0 x i y j ((fun _ => 0), bad) k = s0) → a = { tmps := #[.pointer (some ⟨b, 0, none⟩), m1, .int .i64 (i : Int), m3, .int .i64 (j : Int), m5, .pointer (some ⟨w.heap.size, 0, none⟩), m7, .pointer (some ⟨w.heap.size + 1, 0, none⟩), m9, m10, .pointer (some ⟨w.heap.size + 1 + 1, 0, none⟩), .int .i64 (k : Int), m13, m14, m15, m16, m17, m18, m19, m20, m21, m22, m23, m24, m25, m26, m27, m28, m29, m30, m31, m32, m33, m34, m35], defers := [] } → Kept b w Wl0 → Fl b s0.2 Wl0 → Arr w.heap.size (row 78 x) Wl0 → Arr (w.heap.size + 1) (row 78 y) Wl0 → Arr (w.heap.size + 1 + 1) (row 78 s0.1) Wl0 → G_) → G_) := ⟨_, rfl⟩
 refine rounds_up J0 13 ?_ ?_ ?_
 ·rw [hJ0.out]
  intro G_ hG_
  exact hG_ ((fun _ => 0), bad) _ _ _ _ _ _ _ _ _ _ _ _ _ _ _ _ _ _ _ _ _ _ _ _ _ _ _ _ _ rfl rfl K1 BF_1 B0_1 B1_1 B2_1
 ·intro k a Wl0 hk hI R hR
  rw [hJ0.out] at hI
  refine hI _ ?_
  clear hI
  intro s0 m1 m3 m5 m7 m9 m10 m13 m14 m15 m16 m17 m18 m19 m20 m21 m22 m23 m24 m25 m26 m27 m28 m29 m30 m31 m32 m33 m34 m35 El0 ea Kl0 BF_l0 B0_l0 B1_l0 B2_l0
  subst ea
  have zl0_BF := BF_l0.lies
  have zl0_B0 := B0_l0.lies
  have zl0_B1 := B1_l0.lies
  have zl0_B2 := B2_l0.lies
  go_wp2_with fail
  refine wp_region_held_drew (S := fun w' => Arr w.heap.size (row 78 x) w' ∧ Arr (w.heap.size + 1) (row 78 y) w') (by kernel_rfl) ⟨B0_l0.drew, B1_l0.drew⟩ (fun zH => ?_)
  refine zT 0 rfl (by kernel_rfl) (fun _ _ _ => id) rfl (fun _ _ => by go_simp <;> with_reducible rfl) zH ?_
  simp only [Act.put, zA, zB, zC]
  refine zT 1 rfl (by kernel_rfl) (fun _ _ _ => id) rfl (fun _ _ => by go_simp <;> with_reducible rfl) zH ?_
  simp only [Act.put, zA, zB, zC]
  refine zT 2 rfl (by kernel_rfl) (fun _ _ _ => id) rfl (fun _ _ => by go_simp <;> with_reducible rfl) zH ?_
  simp only [Act.put, zA, zB, zC]
  refine zT 3 rfl (by kernel_rfl) (fun _ _ _ => id) rfl (fun _ _ => by go_simp <;> with_reducible rfl) zH ?_
  simp only [Act.put, zA, zB, zC]
  refine zT 4 rfl (by kernel_rfl) (fun _ _ _ => id) rfl (fun _ _ => by have hi0 : (k : Int) < 13 := (by omega); go_simp <;> with_reducible rfl) zH ?_
  simp only [Act.put, zA, zB, zC]
  refine zT 5 rfl (by kernel_rfl) (fun _ _ _ => id) rfl (fun _ _ => by have hi0 : (i : Int) < 6 := (by omega); go_simp <;> with_reducible rfl) zH ?_
  simp only [Act.put, zA, zB, zC]
  refine zT 6 rfl (by kernel_rfl) (fun _ _ _ => id) rfl (fun wx hS => by have hc0 : wx.cell? ⟨w.heap.size, k * 6 + i, none⟩ = some (.int .i64 (x (k * 6 + i))) := row_c hS.1 (k * 6 + i) (by omega); go_simp <;> with_reducible rfl) zH ?_
  simp only [Act.put, zA, zB, zC]
  refine zT 7 rfl (by kernel_rfl) (fun _ _ _ => id) rfl (fun _ _ => by go_simp <;> with_reducible rfl) zH ?_
  simp only [Act.put, zA, zB, zC]
  refine zT 8 rfl (by kernel_rfl) (fun _ _ _ => id) rfl (fun _ _ => by go_simp <;> with_reducible rfl) zH ?_
  simp only [Act.put, zA, zB, zC]
  refine zT 9 rfl (by kernel_rfl) (fun _ _ _ => id) rfl (fun _ _ => by have hi0 : (k : Int) < 13 := (by omega); go_simp <;> with_reducible rfl) zH ?_
  simp only [Act.put, zA, zB, zC]
  refine zT 10 rfl (by kernel_rfl) (fun _ _ _ => id) rfl (fun _ _ => by have hi0 : (j : Int) < 6 := (by omega); go_simp <;> with_reducible rfl) zH ?_
  simp only [Act.put, zA, zB, zC]
  refine zT 11 rfl (by kernel_rfl) (fun _ _ _ => id) rfl (fun wx hS => by have hc0 : wx.cell? ⟨w.heap.size + 1, k * 6 + j, none⟩ = some (.int .i64 (y (k * 6 + j))) := row_c hS.2 (k * 6 + j) (by omega); go_simp <;> with_reducible rfl) zH ?_
  simp only [Act.put, zA, zB, zC]
  refine zT 13 rfl (by kernel_rfl) (fun _ _ _ => id) rfl (fun _ _ => by have hi0 : (k : Int) < 13 := (by omega); go_simp <;> with_reducible rfl) zH ?_
  simp only [Act.put, zA, zB, zC]
  refine zK 12 (by kernel_rfl) rfl (fun K hK => ?_)
  go_simp
  refine (rMul_any b s0.2 (x (k * 6 + i)) (y (k * 6 + j)) _ BF_l0.drew).mono ?_
  rintro e w2 ⟨rfl, f2, k2⟩
  generalize e2 : mulS s0.2 (x (k * 6 + i)) (y (k * 6 + j)) = r2 at f2 ⊢
  have E2 : Hid _ := e2
  clear e2
  have K2 : Kept b w w2 := Kept.trans Kl0.drew k2
  have B0_2 := B0_l0.drew.kept k2 (zG y1_BF)
  have B1_2 := B1_l0.drew.kept k2 (zG y2_BF)
  have B2_2 := B2_l0.drew.kept k2 (zG y3_BF)
  have z2 := B2_2.lies
  clear zH
  refine hK.out _ _ ⟨B0_2, B1_2⟩ (fun zH => ?_)
  clear hK K BF_l0 B0_l0 B1_l0 B2_l0 k2
  refine zT 14 rfl (by kernel_rfl) (fun _ _ _ => id) rfl (fun _ _ => by go_simp <;> with_reducible rfl) zH ?_
  simp only [Act.put, zA, zB, zC]
  refine zK 15 (by kernel_rfl) rfl (fun K hK => ?_)
  have c4_B2_0 : w2.cell? ⟨w.heap.size + 1 + 1, k * 6, none⟩ = some (.int .i64 (s0.1 (k * 6))) := row_c B2_2 (k * 6) (by omega)
  have g4_B2_1 := row_f B2_2 (k * 6) (by omega)
  go_simp
  clear zH
  refine hK.out _ _ ⟨(B0_2.new (w.heap.size + 1 + 1) (k * 6) (zL y3_B0) (.int .i64 r2.1)), (B1_2.new (w.heap.size + 1 + 1) (k * 6) (zL y3_B1) (.int .i64 r2.1))⟩ (fun zH => ?_)
  clear hK K c4_B2_0 g4_B2_1
  refine wpAnyH_done (by kernel_rfl) ?_ _
  clear zH
  go_wp2_with fail
  have hs0 : Hid (fproductsS_l0 x i y j ((fun _ => 0), bad) (k + 1) = ((updF s0.1 (k * 6) r2.1), r2.2)) := by show _ = _; rw [fproductsS_l0_succ]; unfold fproductsS_l0s; simp only [El0.out, E2.out]
  rw [hJ0.out]
  intro G_ hG_
  exact hG_ ((updF s0.1 (k * 6) r2.1), r2.2) _ _ _ _ _ _ _ _ _ _ _ _ _ _ _ _ _ _ _ _ _ _ _ _ _ _ _ _ _ hs0 rfl (K2.new _ _ (by omega) _) (f2.new (w.heap.size + 1 + 1) (k * 6) (zL y3_BF) (.int .i64 r2.1)) (B0_2.new (w.heap.size + 1 + 1) (k * 6) (zL y3_B0) (.int .i64 r2.1)) (B1_2.new (w.heap.size + 1 + 1) (k * 6) (zL y3_B1) (.int .i64 r2.1)) (row_put B2_2 (k * 6) (by omega) r2.1)
 ·intro a Wl0 hI R
  rw [hJ0.out] at hI
  refine hI _ ?_
  clear hI hJ0
  intro r3 m1 m3 m5 m7 m9 m10 m13 m14 m15 m16 m17 m18 m19 m20 m21 m22 m23 m24 m25 m26 m27 m28 m29 m30 m31 m32 m33 m34 m35 E3 ea Kl0 BF_l0 B0_l0 B1_l0 B2_l0
  subst ea
  have zl0_BF := BF_l0.lies
  have zl0_B0 := B0_l0.lies
  have zl0_B1 := B1_l0.lies
  have zl0_B2 := B2_l0.lies
  go_wp2_with (refine row_load rfl rfl rfl B2_l0 (by kernel_rfl) (by rw [row_len]; kernel_rfl) ?_)
  refine (fmean_any b r3.2 r3.1 0 _ BF_l0 (by omega)).mono ?_
  rintro e w4 ⟨rfl, f4, k4⟩
  generalize e4 : fmeanS r3.2 r3.1 0 = r4 at f4 ⊢
  have E4 : Hid _ := e4
  clear e4
  try dsimp only
  have K4 : Kept b w w4 := Kept.trans Kl0 k4
  have B0_4 := B0_l0.kept k4 (zG y1_BF)
  have B1_4 := B1_l0.kept k4 (zG y2_BF)
  have B2_4 := B2_l0.kept k4 (zG y3_BF)
  have z4 := B2_4.lies
  clear BF_l0 B0_l0 B1_l0 B2_l0 k4
  go_wp2
  go_ret
  have hs : fproductsS bad x i y j = (r4.1, r4.2) := by unfold fproductsS; simp only [E3.out, E4.out]
  rw [hs]
  exact ⟨rfl, f4, K4⟩
end Go.Proofs.YtpjobkbefgehjaaGreat
namespace Go.Proofs.YtpjobkbefgehjaaGreat
open Go.RowKit
set_option maxRecDepth 100000
set_option maxHeartbeats 20000000
theorem fless_any (b : Nat) (bad : Bool) (x : Nat → Int) (m : Nat → Int) (w : World) (hw : Fl b bad w) :
  Calls Tryz.prog 37 #[.pointer (some ⟨b, 0, none⟩), .agg (row 78 x).toArray, .agg (row 6 m).toArray] w fun e w' => e = .returned (.agg (row 78 ((flessS bad x m).1)).toArray) ∧ Fl b (flessS bad x m).2 w' ∧ Kept b w w' := by
 have hl := hw.lies
 go_enter Tryz.func37, Tryz.ntmps37
 have y1_BF := hw.lies
 have y2_BF : b < w.heap.size + 1 := (Nat.lt_succ_of_lt hw.lies)
 have y2_B0 : w.heap.size < w.heap.size + 1 := by omega
 have y3_BF : b < w.heap.size + 1 + 1 := (Nat.lt_succ_of_lt (Nat.lt_succ_of_lt hw.lies))
 have y3_B0 : w.heap.size < w.heap.size + 1 + 1 := by omega
 have y3_B1 : w.heap.size + 1 < w.heap.size + 1 + 1 := by omega
 go_wp2_with fail
 obtain ⟨J0, hJ0⟩ : ∃ J : Nat → Act → World → Prop, Hid (J = fun k a Wl0 => ∀ G_ : Prop, (∀ (s0 : (Nat → Int) × Bool) (m1 m2 m3 m8 m9 m10 m11 m12 m13 m14 m15 m16 m17 m18 m19 m20 m21 m22 m23 m24 m25 m26 m27 m28 m29 m30 m31 : Value), Hid (flessS_l0 m (x, bad) k = s0) → a = { tmps := #[.pointer (some ⟨b, 0, none⟩), m1, m2, m3, .pointer (some ⟨w.heap.size, 0, none⟩), .pointer (some ⟨w.heap.size + 1, 0, none⟩), .pointer (some ⟨w.heap.size + 1 + 1, 0, none⟩), .int .i64 (k : Int), m8, m9, m10, m11, m12, m13, m14, m15, m16, m17, m18, m19, m20, m21, m22, m23, m24, m25, m26, m27, m28, m29, m30, m31], defers := [] } → Kept b w Wl0 → Fl b s0.2 Wl0 → Arr w.heap.size (row 78 s0.1) Wl0 → Arr (w.heap.size + 1) (row 6 m) Wl0 → Arr (w.heap.size + 1 + 1) (row 78 (fun _ => 0)) Wl0 → G_) → G_) := ⟨_, rfl⟩
 refine rounds_up J0 13 ?_ ?_ ?_
 ·rw [hJ0.out]
  intro G_ hG_
  exact hG_ (x, bad) _ _ _ _ _ _ _ _ _ _ _ _ _ _ _ _ _ _ _ _ _ _ _ _ _ _ _ rfl rfl ((((Kept.refl b w).al _).al _).al _) (((hw.alloc _).alloc _).alloc _) (((Arr_at _ _ (row 78 x) _ (by simp)).alloc _).alloc _) ((Arr_at _ _ (row 6 m) _ (by simp)).alloc _) (Arr_at _ _ (row 78 (fun _ => 0)) _ (by simp))
 ·intro k a Wl0 hk hI R hR
  rw [hJ0.out] at hI
  refine hI _ ?_
  clear hI
  intro s0 m1 m2 m3 m8 m9 m10 m11 m12 m13 m14 m15 m16 m17 m18 m19 m20 m21 m22 m23 m24 m25 m26 m27 m28 m29 m30 m31 El0 ea Kl0 BF_l0 B0_l0 B1_l0 B2_l0
  subst ea
  have zl0_BF := BF_l0.lies
  have zl0_B0 := B0_l0.lies
  have zl0_B1 := B1_l0.lies
  have zl0_B2 := B2_l0.lies
  go_wp2_with fail
  obtain ⟨J1, hJ1⟩ : ∃ J : Nat → Act → World → Prop, Hid (J = fun i a Wl1 => ∀ G_ : Prop, (∀ (s1 : (Nat → Int) × Bool) (n1 n2 n3 n9 n10 n11 n12 n13 n14 n15 n16 n17 n18 n19 n20 n21 n22 n23 n24 n25 n26 n27 n28 n29 n30 n31 : Value), Hid (flessS_l1 m k (s0.1, s0.2) i = s1) → a = { tmps := #[.pointer (some ⟨b, 0, none⟩), n1, n2, n3, .pointer (some ⟨w.heap.size, 0, none⟩), .pointer (some ⟨w.heap.size + 1, 0, none⟩), .pointer (some ⟨w.heap.size + 1 + 1, 0, none⟩), .int .i64 (k : Int), .int .i64 (i : Int), n9, n10, n11, n12, n13, n14, n15, n16, n17, n18, n19, n20, n21, n22, n23, n24, n25, n26, n27, n28, n29, n30, n31], defers := [] } → Kept b w Wl1 → Fl b s1.2 Wl1 → Arr w.heap.size (row 78 s1.1) Wl1 → Arr (w.heap.size + 1) (row 6 m) Wl1 → Arr (w.heap.size + 1 + 1) (row 78 (fun _ => 0)) Wl1 → G_) → G_) := ⟨_, rfl⟩
  refine rounds_up J1 6 ?_ ?_ ?_
  ·rw [hJ1.out]
   intro G_ hG_
   exact hG_ (s0.1, s0.2) _ _ _ _ _ _ _ _ _ _ _ _ _ _ _ _ _ _ _ _ _ _ _ _ _ _ rfl rfl Kl0 BF_l0 B0_l0 B1_l0 B2_l0
  ·intro i a Wl1 hi hI R hR
   rw [hJ1.out] at hI
   refine hI _ ?_
   clear hI
   intro s1 n1 n2 n3 n9 n10 n11 n12 n13 n14 n15 n16 n17 n18 n19 n20 n21 n22 n23 n24 n25 n26 n27 n28 n29 n30 n31 El1 ea Kl1 BF_l1 B0_l1 B1_l1 B2_l1
   subst ea
   have zl1_BF := BF_l1.lies
   have zl1_B0 := B0_l1.lies
   have zl1_B1 := B1_l1.lies
   have zl1_B2 := B2_l1.lies
   go_wp2_with fail
   refine wp_region_held_drew (S := fun w' => NearR w.heap.size 78 s1.1 (k * 6 + i) w' ∧ Arr (w.heap.size + 1) (row 6 m) w') (by kernel_rfl) ⟨(NearR.same B0_l1.drew), B1_l1.drew⟩ (fun zH => ?_)
   refine zT 0 rfl (by kernel_rfl) (fun _ _ _ => id) rfl (fun _ _ => by go_simp <;> with_reducible rfl) zH ?_
   simp only [Act.put, zA, zB, zC]
   refine zT 1 rfl (by kernel_rfl) (fun _ _ _ => id) rfl (fun _ _ => by go_simp <;> with_reducible rfl) zH ?_
   simp only [Act.put, zA, zB, zC]
   refine zT 2 rfl (by kernel_rfl) (fun _ _ _ => id) rfl (fun _ _ => by go_simp <;> with_reducible rfl) zH ?_
   simp only [Act.put, zA, zB, zC]
   refine zT 3 rfl (by kernel_rfl) (fun _ _ _ => id) rfl (fun _ _ => by go_simp <;> with_reducible rfl) zH ?_
   simp only [Act.put, zA, zB, zC]
   refine zT 4 rfl (by kernel_rfl) (fun _ _ _ => id) rfl (fun _ _ => by go_simp <;> with_reducible rfl) zH ?_
   simp only [Act.put, zA, zB, zC]
   refine zT 5 rfl (by kernel_rfl) (fun _ _ _ => id) rfl (fun _ _ => by have hi0 : (k : Int) < 13 := (by omega); go_simp <;> with_reducible rfl) zH ?_
   simp only [Act.put, zA, zB, zC]
   refine zT 6 rfl (by kernel_rfl) (fun _ _ _ => id) rfl (fun _ _ => by have hi0 : (i : Int) < 6 := (by omega); go_simp <;> with_reducible rfl) zH ?_
   simp only [Act.put, zA, zB, zC]
   refine zT 8 rfl (by kernel_rfl) (fun _ _ _ => id) rfl (fun _ _ => by go_simp <;> with_reducible rfl) zH ?_
   simp only [Act.put, zA, zB, zC]
   refine zT 9 rfl (by kernel_rfl) (fun _ _ _ => id) rfl (fun _ _ => by have hi0 : (i : Int) < 6 := (by omega); go_simp <;> with_reducible rfl) zH ?_
   simp only [Act.put, zA, zB, zC]
   refine zT 10 rfl (by kernel_rfl) (fun _ _ _ => id) rfl (fun wx hS => by have hc0 : wx.cell? ⟨w.heap.size + 1, i, none⟩ = some (.int .i64 (m i)) := row_c hS.2 i (by omega); go_simp <;> with_reducible rfl) zH ?_
   simp only [Act.put, zA, zB, zC]
   refine zT 12 rfl (by kernel_rfl) (fun _ _ _ => id) rfl (fun _ _ => by have hi0 : (k : Int) < 13 := (by omega); go_simp <;> with_reducible rfl) zH ?_
   simp only [Act.put, zA, zB, zC]
   refine zK 7 (by kernel_rfl) rfl (fun K hK => ?_)
   have c4_B0_0 : Wl1.cell? ⟨w.heap.size, k * 6 + i, none⟩ = some (.int .i64 (s1.1 (k * 6 + i))) := row_c B0_l1 (k * 6 + i) (by omega)
   go_simp
   clear zH
   refine hK.out _ _ ⟨(NearR.same B0_l1.drew), B1_l1.drew⟩ (fun zH => ?_)
   clear hK K c4_B0_0
   refine zK 11 (by kernel_rfl) rfl (fun K hK => ?_)
   go_simp
   refine (rSub_any b s1.2 (s1.1 (k * 6 + i)) (m i) _ BF_l1.drew).mono ?_
   rintro e w1 ⟨rfl, f1, k1⟩
   generalize e1 : subS s1.2 (s1.1 (k * 6 + i)) (m i) = r1 at f1 ⊢
   have E1 : Hid _ := e1
   clear e1
   have K1 : Kept b w w1 := Kept.trans Kl1.drew k1
   have B0_1 := B0_l1.drew.kept k1 (zG y1_BF)
   have B1_1 := B1_l1.drew.kept k1 (zG y2_BF)
   have B2_1 := B2_l1.drew.kept k1 (zG y3_BF)
   have z1 := B2_1.lies
   clear zH
   refine hK.out _ _ ⟨(NearR.same B0_1), B1_1⟩ (fun zH => ?_)
   clear hK K BF_l1 B0_l1 B1_l1 B2_l1 k1
   refine zT 13 rfl (by kernel_rfl) (fun _ _ _ => id) rfl (fun _ _ => by have hi0 : (i : Int) < 6 := (by omega); go_simp <;> with_reducible rfl) zH ?_
   simp only [Act.put, zA, zB, zC]
   refine zK 14 (by kernel_rfl) rfl (fun K hK => ?_)
   have c5_B0_0 : w1.cell? ⟨w.heap.size, k * 6 + i, none⟩ = some (.int .i64 (s1.1 (k * 6 + i))) := row_c B0_1 (k * 6 + i) (by omega)
   have g5_B0_1 := row_f B0_1 (k * 6 + i) (by omega)
   go_simp
   clear zH
   refine hK.out _ _ ⟨(NearR.upd (row_put B0_1 (k * 6 + i) (by omega) r1.1)), (B1_1.new w.heap.size (k * 6 + i) (zG y2_B0) (.int .i64 r1.1))⟩ (fun zH => ?_)
   clear hK K c5_B0_0 g5_B0_1
   refine wpAnyH_done (by kernel_rfl) ?_ _
   clear zH
   go_wp2_with fail
   have hs1 : Hid (flessS_l1 m k (s0.1, s0.2) (i + 1) = ((updF s1.1 (k * 6 + i) r1.1), r1.2)) := by show _ = _; rw [flessS_l1_succ]; unfold flessS_l1s; simp only [El1.out, E1.out]
   rw [hJ1.out]
   intro G_ hG_
   exact hG_ ((updF s1.1 (k * 6 + i) r1.1), r1.2) _ _ _ _ _ _ _ _ _ _ _ _ _ _ _ _ _ _ _ _ _ _ _ _ _ _ hs1 rfl (K1.new _ _ (by omega) _) (f1.new w.heap.size (k * 6 + i) (zL y1_BF) (.int .i64 r1.1)) (row_put B0_1 (k * 6 + i) (by omega) r1.1) (B1_1.new w.heap.size (k * 6 + i) (zG y2_B0) (.int .i64 r1.1)) (B2_1.new w.heap.size (k * 6 + i) (zG y3_B0) (.int .i64 r1.1))
  ·intro a Wl1 hI R
   rw [hJ1.out] at hI
   refine hI _ ?_
   clear hI hJ1
   intro r2 n1 n2 n3 n9 n10 n11 n12 n13 n14 n15 n16 n17 n18 n19 n20 n21 n22 n23 n24 n25 n26 n27 n28 n29 n30 n31 E2 ea Kl1 BF_l1 B0_l1 B1_l1 B2_l1
   subst ea
   have zl1_BF := BF_l1.lies
   have zl1_B0 := B0_l1.lies
   have zl1_B1 := B1_l1.lies
   have zl1_B2 := B2_l1.lies
   go_wp2_with fail
   have hs0 : Hid (flessS_l0 m (x, bad) (k + 1) = (r2.1, r2.2)) := by show _ = _; rw [flessS_l0_succ]; unfold flessS_l0s; simp only [El0.out, E2.out]
   rw [hJ0.out]
   intro G_ hG_
   exact hG_ (r2.1, r2.2) _ _ _ _ _ _ _ _ _ _ _ _ _ _ _ _ _ _ _ _ _ _ _ _ _ _ _ hs0 rfl Kl1 BF_l1 B0_l1 B1_l1 B2_l1
 ·intro a Wl0 hI R
  rw [hJ0.out] at hI
  refine hI _ ?_
  clear hI hJ0
  intro r1 m1 m2 m3 m8 m9 m10 m11 m12 m13 m14 m15 m16 m17 m18 m19 m20 m21 m22 m23 m24 m25 m26 m27 m28 m29 m30 m31 E1 ea Kl0 BF_l0 B0_l0 B1_l0 B2_l0
  subst ea
  have zl0_BF := BF_l0.lies
  have zl0_B0 := B0_l0.lies
  have zl0_B1 := B1_l0.lies
  have zl0_B2 := B2_l0.lies
  go_wp2_with (first | (refine row_load rfl rfl rfl B0_l0 (by kernel_rfl) (by rw [row_len]; kernel_rfl) ?_) | (refine store_stop rfl (by kernel_rfl) ?_))
  refine Stop.mk (store_row (l' := row 78 r1.1) rfl rfl rfl rfl B2_l0 (by simp only [row_len]) (by rw [row_len]; kernel_rfl) (row_one _ _) ?_)
  intro w2 B2_2 o2
  have K2 : Kept b w w2 := Kept.off Kl0 o2 (by omega)
  have BF_2 := BF_l0.off o2 (zL y3_BF)
  have B0_2 := B0_l0.off o2 (zL y3_B0)
  have B1_2 := B1_l0.off o2 (zL y3_B1)
  have z2_B2 := B2_2.lies
  have z2_BF := BF_2.lies
  have z2_B0 := B0_2.lies
  have z2_B1 := B1_2.lies
  clear B2_l0 BF_l0 B0_l0 B1_l0 o2
  go_wp2_with (with_reducible refine post_stop ?_)
  refine Stop.mk ?_
  refine bodyPost_ret (v := .agg (row 78 r1.1).toArray) (results_arr Tryz.results37 B2_2 rfl (by kernel_rfl) (by rw [row_len]; kernel_rfl)) rfl ?_
  have hs : flessS bad x m = (r1.1, r1.2) := by unfold flessS; simp only [E1.out]
  rw [hs]
  exact ⟨rfl, BF_2, K2⟩
end Go.Proofs.YtpjobkbefgehjaaGreat
namespace Go.Proofs.YtpjobkbefgehjaaGreat
open Go.RowKit
set_option maxRecDepth 100000
set_option maxHeartbeats 20000000
theorem fPoints_any (b : Nat) (bad : Bool) (g : Nat → Int) (w : World) (hw : Fl b bad w) :
  Calls Tryz.prog 26 #[.pointer (some ⟨b, 0, none⟩), .agg (row 43 g).toArray] w fun e w' => e = .returned (.agg (row 78 ((fPointsS bad g).1)).toArray) ∧ Fl b (fPointsS bad g).2 w' ∧ Kept b w w' := by
 have hl := hw.lies
 go_enter Tryz.func26, Tryz.ntmps26
 have y1_BF := hw.lies
 have y2_BF : b < w.heap.size + 1 := (Nat.lt_succ_of_lt hw.lies)
 have y2_B0 : w.heap.size < w.heap.size + 1 := by omega
 go_wp2_with (refine part_load (M := 36) rfl rfl rfl ((Arr_at _ _ (row 43 g) _ (by simp)).alloc _) (by omega) (by kernel_rfl) (by rw [row_len]; kernel_rfl) ?_)
 refine (zRoot6_any b bad (fun x_ => g (7 + x_)) _ ((hw.alloc _).alloc _)).mono ?_
 rintro e w1 ⟨rfl, f1, k1⟩
 generalize e1 : zRoot6 bad (fun x_ => g (7 + x_)) = r1 at f1 ⊢
 have E1 : Hid _ := e1
 clear e1
 try dsimp only
 have K1 : Kept b w w1 := Kept.trans (((Kept.refl b w).al _).al _) k1
 have B0_1 := ((Arr_at _ w.heap.size (row 43 g) _ (by simp)).alloc _).kept k1 (zG y1_BF)
 have B1_1 := (Arr_at _ (w.heap.size + 1) (row 78 (fun _ => 0)) _ (by simp)).kept k1 (zG y2_BF)
 have z1 := B1_1.lies
 clear k1
 have y3_BF := f1.lies
 have y3_B0 := B0_1.lies
 have y3_B1 := B1_1.lies
 go_wp2_with (refine store_stop rfl (by kernel_rfl) ?_)
 refine Stop.mk (store_row (l' := row 36 r1.1) rfl rfl rfl rfl (Arr_at _ _ (row 36 (fun _ => 0)) _ (by simp)) (by simp only [row_len]) (by rw [row_len]; kernel_rfl) (row_one _ _) ?_)
 intro w2 B2_2 o2
 have K2 : Kept b w w2 := Kept.off (K1.al _) o2 (by omega)
 have BF_2 := (f1.alloc _).off o2 (zL y3_BF)
 have B0_2 := (B0_1.alloc _).off o2 (zL y3_B0)
 have B1_2 := (B1_1.alloc _).off o2 (zL y3_B1)
 have z2_B2 := B2_2.lies
 have z2_BF := BF_2.lies
 have z2_B0 := B0_2.lies
 have z2_B1 := B1_2.lies
 clear K1 f1 B0_1 B1_1 o2
 go_wp2_with fail
 refine (rSqrt_any b r1.2 7696581394432 _ BF_2).mono ?_
 rintro e w3 ⟨rfl, f3, k3⟩
 generalize e3 : sqrtS r1.2 7696581394432 = r3 at f3 ⊢
 have E3 : Hid _ := e3
 clear e3
 try dsimp only
 have K3 := Kept.trans K2 k3
 have B0_3 := B0_2.kept k3 (zG y1_BF)
 have B1_3 := B1_2.kept k3 (zG y2_BF)
 have B2_3 := B2_2.kept k3 (zG y3_BF)
 have z3 := B2_3.lies
 clear K2 BF_2 B0_2 B1_2 B2_2 k3
 have y4_BF := f3.lies
 have y4_B0 := B0_3.lies
 have y4_B1 := B1_3.lies
 have y4_B2 := B2_3.lies
 go_wp2_with (refine store_stop rfl (by kernel_rfl) ?_)
 refine Stop.mk (store_row (l' := row 78 (fun _ => 0)) rfl rfl rfl rfl (Arr_at _ _ (row 78 (fun _ => 0)) _ (by simp)) (by simp only [row_len]) (by rw [row_len]; kernel_rfl) (row_one _ _) ?_)
 intro w4 B3_4 o4
 have K4 : Kept b w w4 := Kept.off (K3.al _) o4 (by omega)
 have BF_4 := (f3.alloc _).off o4 (zL y4_BF)
 have B0_4 := (B0_3.alloc _).off o4 (zL y4_B0)
 have B1_4 := (B1_3.alloc _).off o4 (zL y4_B1)
 have B2_4 := (B2_3.alloc _).off o4 (zL y4_B2)
 have z4_B3 := B3_4.lies
 have z4_BF := BF_4.lies
 have z4_B0 := B0_4.lies
 have z4_B1 := B1_4.lies
 have z4_B2 := B2_4.lies
 clear K3 f3 B0_3 B1_3 B2_3 o4
 go_wp2_with fail
 obtain ⟨J0, hJ0⟩ : ∃ J : Nat → Act → World → Prop, Hid (J = fun k a Wl0 => ∀ G_ : Prop, (∀ (s0 : (Nat → Int) × Bool) (m1 m2 m3 m9 m10 m11 m12 m13 m14 m15 m16 m17 m18 m19 m20 m21 m22 m23 m24 m25 m26 m27 m28 m29 m30 m31 m32 m33 m34 m35 m36 m37 m38 m39 m40 m41 m42 m43 m44 m45 m46 m47 m48 m49 m50 m51 m52 : Value), Hid (fPointsS_l0 r1 r3 ((fun _ => 0), r3.2) k = s0) → a = { tmps := #[.pointer (some ⟨b, 0, none⟩), m1, m2, m3, .pointer (some ⟨w.heap.size + 1, 0, none⟩), .pointer (some ⟨w1.heap.size, 0, none⟩), .int .i64 r3.1, .pointer (some ⟨w3.heap.size, 0, none⟩), .int .i64 (k : Int), m9, m10, m11, m12, m13, m14, m15, m16, m17, m18, m19, m20, m21, m22, m23, m24, m25, m26, m27, m28, m29, m30, m31, m32, m33, m34, m35, m36, m37, m38, m39, m40, m41, m42, m43, m44, m45, m46, m47, m48, m49, m50, m51, m52], defers := [] } → Kept b w Wl0 → Fl b s0.2 Wl0 → Arr w.heap.size (row 43 g) Wl0 → Arr (w.heap.size + 1) (row 78 (fun _ => 0)) Wl0 → Arr w1.heap.size (row 36 r1.1) Wl0 → Arr w3.heap.size (row 78 s0.1) Wl0 → G_) → G_) := ⟨_, rfl⟩
 refine rounds_up J0 6 ?_ ?_ ?_
 ·rw [hJ0.out]
  intro G_ hG_
  exact hG_ ((fun _ => 0), r3.2) _ _ _ _ _ _ _ _ _ _ _ _ _ _ _ _ _ _ _ _ _ _ _ _ _ _ _ _ _ _ _ _ _ _ _ _ _ _ _ _ _ _ _ _ _ _ _ rfl rfl K4 BF_4 B0_4 B1_4 B2_4 B3_4
 ·intro k a Wl0 hk hI R hR
  rw [hJ0.out] at hI
  refine hI _ ?_
  clear hI
  intro s0 m1 m2 m3 m9 m10 m11 m12 m13 m14 m15 m16 m17 m18 m19 m20 m21 m22 m23 m24 m25 m26 m27 m28 m29 m30 m31 m32 m33 m34 m35 m36 m37 m38 m39 m40 m41 m42 m43 m44 m45 m46 m47 m48 m49 m50 m51 m52 El0 ea Kl0 BF_l0 B0_l0 B1_l0 B2_l0 B3_l0
  subst ea
  have zl0_BF := BF_l0.lies
  have zl0_B0 := B0_l0.lies
  have zl0_B1 := B1_l0.lies
  have zl0_B2 := B2_l0.lies
  have zl0_B3 := B3_l0.lies
  go_wp2_with fail
  obtain ⟨J1, hJ1⟩ : ∃ J : Nat → Act → World → Prop, Hid (J = fun i a Wl1 => ∀ G_ : Prop, (∀ (s1 : (Nat → Int) × Bool) (n1 n2 n3 n10 n11 n12 n13 n14 n15 n16 n17 n18 n19 n20 n21 n22 n23 n24 n25 n26 n27 n28 n29 n30 n31 n32 n33 n34 n35 n36 n37 n38 n39 n40 n41 n42 n43 n44 n45 n46 n47 n48 n49 n50 n51 n52 : Value), Hid (fPointsS_l1 r1 r3 k (s0.1, s0.2) i = s1) → a = { tmps := #[.pointer (some ⟨b, 0, none⟩), n1, n2, n3, .pointer (some ⟨w.heap.size + 1, 0, none⟩), .pointer (some ⟨w1.heap.size, 0, none⟩), .int .i64 r3.1, .pointer (some ⟨w3.heap.size, 0, none⟩), .int .i64 (k : Int), .int .i64 (i : Int), n10, n11, n12, n13, n14, n15, n16, n17, n18, n19, n20, n21, n22, n23, n24, n25, n26, n27, n28, n29, n30, n31, n32, n33, n34, n35, n36, n37, n38, n39, n40, n41, n42, n43, n44, n45, n46, n47, n48, n49, n50, n51, n52], defers := [] } → Kept b w Wl1 → Fl b s1.2 Wl1 → Arr w.heap.size (row 43 g) Wl1 → Arr (w.heap.size + 1) (row 78 (fun _ => 0)) Wl1 → Arr w1.heap.size (row 36 r1.1) Wl1 → Arr w3.heap.size (row 78 s1.1) Wl1 → G_) → G_) := ⟨_, rfl⟩
  refine rounds_up J1 6 ?_ ?_ ?_
  ·rw [hJ1.out]
   intro G_ hG_
   exact hG_ (s0.1, s0.2) _ _ _ _ _ _ _ _ _ _ _ _ _ _ _ _ _ _ _ _ _ _ _ _ _ _ _ _ _ _ _ _ _ _ _ _ _ _ _ _ _ _ _ _ _ _ rfl rfl Kl0 BF_l0 B0_l0 B1_l0 B2_l0 B3_l0
  ·intro i a Wl1 hi hI R hR
   rw [hJ1.out] at hI
   refine hI _ ?_
   clear hI
   intro s1 n1 n2 n3 n10 n11 n12 n13 n14 n15 n16 n17 n18 n19 n20 n21 n22 n23 n24 n25 n26 n27 n28 n29 n30 n31 n32 n33 n34 n35 n36 n37 n38 n39 n40 n41 n42 n43 n44 n45 n46 n47 n48 n49 n50 n51 n52 El1 ea Kl1 BF_l1 B0_l1 B1_l1 B2_l1 B3_l1
   subst ea
   have zl1_BF := BF_l1.lies
   have zl1_B0 := B0_l1.lies
   have zl1_B1 := B1_l1.lies
   have zl1_B2 := B2_l1.lies
   have zl1_B3 := B3_l1.lies
   have c7_B2_0 : Wl1.cell? ⟨w1.heap.size, i * 6 + k, none⟩ = some (.int .i64 (r1.1 (i * 6 + k))) := row_c B2_l1 (i * 6 + k) (by omega)
   have i7_1 : (i : Int) < 6 := by omega
   have i7_2 : (k : Int) < 6 := by omega
   go_wp2_with fail
   refine (rMul_any b s1.2 r3.1 (r1.1 (i * 6 + k)) _ BF_l1).mono ?_
   rintro e w5 ⟨rfl, f5, k5⟩
   generalize e5 : mulS s1.2 r3.1 (r1.1 (i * 6 + k)) = r5 at f5 ⊢
   have E5 : Hid _ := e5
   clear e5
   try dsimp only
   have K5 : Kept b w w5 := Kept.trans Kl1 k5
   have B0_5 := B0_l1.kept k5 (zG y1_BF)
   have B1_5 := B1_l1.kept k5 (zG y2_BF)
   have B2_5 := B2_l1.kept k5 (zG y3_BF)
   have B3_5 := B3_l1.kept k5 (zG y4_BF)
   have z5 := B3_5.lies
   clear c7_B2_0 i7_1 i7_2 BF_l1 B0_l1 B1_l1 B2_l1 B3_l1 k5
   have c8_B3_0 : w5.cell? ⟨w3.heap.size, (1 + k) * 6 + i, none⟩ = some (.int .i64 (s1.1 ((1 + k) * 6 + i))) := row_c B3_5 ((1 + k) * 6 + i) (by omega)
   have c8_B3_1 : w5.cell? ⟨w3.heap.size, (7 + k) * 6 + i, none⟩ = some (.int .i64 (s1.1 ((7 + k) * 6 + i))) := row_c B3_5 ((7 + k) * 6 + i) (by omega)
   have g8_B3_2 := row_f B3_5 ((1 + k) * 6 + i) (by omega)
   have g8_B3_3 := row_f B3_5 ((7 + k) * 6 + i) (by omega)
   have q8_4 : -4611686018427387904 ≤ r5.1 ∧ r5.1 ≤ 4611686018427387904 := (by rw [← E5.out]; exact partS_rng _ _ _ _)
   obtain ⟨q8_4a, q8_4b⟩ := q8_4
   have i8_6 : (1 + (k : Int)) < 13 := by omega
   have i8_7 : (7 + (k : Int)) < 13 := by omega
   have i8_8 : (i : Int) < 6 := by omega
   go_wp2_with fail
   clear c8_B3_0 c8_B3_1 g8_B3_2 g8_B3_3 q8_4a q8_4b i8_6 i8_7 i8_8
   have hs1 : Hid (fPointsS_l1 r1 r3 k (s0.1, s0.2) (i + 1) = ((updF (updF s1.1 ((1 + k) * 6 + i) r5.1) ((7 + k) * 6 + i) (-r5.1)), r5.2)) := by show _ = _; rw [fPointsS_l1_succ]; unfold fPointsS_l1s; simp only [El1.out, E5.out]
   rw [hJ1.out]
   intro G_ hG_
   exact hG_ ((updF (updF s1.1 ((1 + k) * 6 + i) r5.1) ((7 + k) * 6 + i) (-r5.1)), r5.2) _ _ _ _ _ _ _ _ _ _ _ _ _ _ _ _ _ _ _ _ _ _ _ _ _ _ _ _ _ _ _ _ _ _ _ _ _ _ _ _ _ _ _ _ _ _ hs1 rfl ((K5.new _ _ (by omega) _).new _ _ (by omega) _) ((f5.new w3.heap.size ((1 + k) * 6 + i) (zL y4_BF) (.int .i64 r5.1)).new w3.heap.size ((7 + k) * 6 + i) (zL y4_BF) (.int .i64 (-r5.1))) ((B0_5.new w3.heap.size ((1 + k) * 6 + i) (zL y4_B0) (.int .i64 r5.1)).new w3.heap.size ((7 + k) * 6 + i) (zL y4_B0) (.int .i64 (-r5.1))) ((B1_5.new w3.heap.size ((1 + k) * 6 + i) (zL y4_B1) (.int .i64 r5.1)).new w3.heap.size ((7 + k) * 6 + i) (zL y4_B1) (.int .i64 (-r5.1))) ((B2_5.new w3.heap.size ((1 + k) * 6 + i) (zL y4_B2) (.int .i64 r5.1)).new w3.heap.size ((7 + k) * 6 + i) (zL y4_B2) (.int .i64 (-r5.1))) (row_put (row_put B3_5 ((1 + k) * 6 + i) (by omega) r5.1) ((7 + k) * 6 + i) (by omega) (-r5.1))
  ·intro a Wl1 hI R
   rw [hJ1.out] at hI
   refine hI _ ?_
   clear hI hJ1
   intro r6 n1 n2 n3 n10 n11 n12 n13 n14 n15 n16 n17 n18 n19 n20 n21 n22 n23 n24 n25 n26 n27 n28 n29 n30 n31 n32 n33 n34 n35 n36 n37 n38 n39 n40 n41 n42 n43 n44 n45 n46 n47 n48 n49 n50 n51 n52 E6 ea Kl1 BF_l1 B0_l1 B1_l1 B2_l1 B3_l1
   subst ea
   have zl1_BF := BF_l1.lies
   have zl1_B0 := B0_l1.lies
   have zl1_B1 := B1_l1.lies
   have zl1_B2 := B2_l1.lies
   have zl1_B3 := B3_l1.lies
   go_wp2_with fail
   have hs0 : Hid (fPointsS_l0 r1 r3 ((fun _ => 0), r3.2) (k + 1) = (r6.1, r6.2)) := by show _ = _; rw [fPointsS_l0_succ]; unfold fPointsS_l0s; simp only [El0.out, E6.out]
   rw [hJ0.out]
   intro G_ hG_
   exact hG_ (r6.1, r6.2) _ _ _ _ _ _ _ _ _ _ _ _ _ _ _ _ _ _ _ _ _ _ _ _ _ _ _ _ _ _ _ _ _ _ _ _ _ _ _ _ _ _ _ _ _ _ _ hs0 rfl Kl1 BF_l1 B0_l1 B1_l1 B2_l1 B3_l1
 ·intro a Wl0 hI R
  rw [hJ0.out] at hI
  refine hI _ ?_
  clear hI hJ0
  intro r5 m1 m2 m3 m9 m10 m11 m12 m13 m14 m15 m16 m17 m18 m19 m20 m21 m22 m23 m24 m25 m26 m27 m28 m29 m30 m31 m32 m33 m34 m35 m36 m37 m38 m39 m40 m41 m42 m43 m44 m45 m46 m47 m48 m49 m50 m51 m52 E5 ea Kl0 BF_l0 B0_l0 B1_l0 B2_l0 B3_l0
  subst ea
  have zl0_BF := BF_l0.lies
  have zl0_B0 := B0_l0.lies
  have zl0_B1 := B1_l0.lies
  have zl0_B2 := B2_l0.lies
  have zl0_B3 := B3_l0.lies
  rcases Bool.eq_false_or_eq_true r5.2 with hc1 | hc1
  ·have Hhc1 : Hid (r5.2 = true) := hc1
   have c7_BF := BF_l0.cell
   go_wp2_with (refine store_stop rfl (by kernel_rfl) ?_)
   clear c7_BF
   refine Stop.mk (store_row (l' := row 78 (fun _ => 0)) rfl rfl rfl rfl B1_l0 (by simp only [row_len]) (by rw [row_len]; kernel_rfl) (row_one _ _) ?_)
   intro w6 B1_6 o6
   have K6 : Kept b w w6 := Kept.off Kl0 o6 (by omega)
   have BF_6 := BF_l0.off o6 (zL y2_BF)
   have B0_6 := B0_l0.off o6 (zL y2_B0)
   have B2_6 := B2_l0.off o6 (zG y3_B1)
   have B3_6 := B3_l0.off o6 (zG y4_B1)
   have z6_B1 := B1_6.lies
   have z6_BF := BF_6.lies
   have z6_B0 := B0_6.lies
   have z6_B2 := B2_6.lies
   have z6_B3 := B3_6.lies
   clear B1_l0 BF_l0 B0_l0 B2_l0 B3_l0 o6
   go_wp2_with (with_reducible refine post_stop ?_)
   refine Stop.mk ?_
   refine bodyPost_ret (v := .agg (row 78 (fun _ => 0)).toArray) (results_arr Tryz.results26 B1_6 rfl (by kernel_rfl) (by rw [row_len]; kernel_rfl)) rfl ?_
   have hs : fPointsS bad g = ((fun _ => 0), r5.2) := by unfold fPointsS; simp only [E1.out, E3.out, E5.out]; rw [if_pos Hhc1.out]
   rw [hs]
   exact ⟨rfl, BF_6, K6⟩
  ·have Hhc1 : Hid (r5.2 = false) := hc1
   have c7_BF := BF_l0.cell
   go_wp2_with (first | (refine row_load rfl rfl rfl B3_l0 (by kernel_rfl) (by rw [row_len]; kernel_rfl) ?_) | (refine store_stop rfl (by kernel_rfl) ?_))
   clear c7_BF
   refine Stop.mk (store_row (l' := row 78 r5.1) rfl rfl rfl rfl B1_l0 (by simp only [row_len]) (by rw [row_len]; kernel_rfl) (row_one _ _) ?_)
   intro w6 B1_6 o6
   have K6 : Kept b w w6 := Kept.off Kl0 o6 (by omega)
   have BF_6 := BF_l0.off o6 (zL y2_BF)
   have B0_6 := B0_l0.off o6 (zL y2_B0)
   have B2_6 := B2_l0.off o6 (zG y3_B1)
   have B3_6 := B3_l0.off o6 (zG y4_B1)
   have z6_B1 := B1_6.lies
   have z6_BF := BF_6.lies
   have z6_B0 := B0_6.lies
   have z6_B2 := B2_6.lies
   have z6_B3 := B3_6.lies
   clear B1_l0 BF_l0 B0_l0 B2_l0 B3_l0 o6
   go_wp2_with (with_reducible refine post_stop ?_)
   refine Stop.mk ?_
   refine bodyPost_ret (v := .agg (row 78 r5.1).toArray) (results_arr Tryz.results26 B1_6 rfl (by kernel_rfl) (by rw [row_len]; kernel_rfl)) rfl ?_
   have hs : fPointsS bad g = (r5.1, r5.2) := by unfold fPointsS; simp only [E1.out, E3.out, E5.out]; rw [if_neg (by rw [Hhc1.out]; decide)]
   rw [hs]
   exact ⟨rfl, BF_6, K6⟩
end Go.Proofs.YtpjobkbefgehjaaGreat
namespace Go.Proofs.YtpjobkbefgehjaaGreat
open Go.RowKit
set_option maxRecDepth 100000
set_option maxHeartbeats 20000000
theorem fattitude_any (b : Nat) (bad : Bool) (g : Nat → Int) (r : Nat → Int) (w : World) (hw : Fl b bad w) :
  Calls Tryz.prog 32 #[.pointer (some ⟨b, 0, none⟩), .agg (row 43 g).toArray, .agg (row 6 r).toArray] w fun e w' => e = .returned (.agg #[.int .i64 ((fattitudeS bad g r).1.1), .int .i64 ((fattitudeS bad g r).1.2.1), .int .i64 ((fattitudeS bad g r).1.2.2.1), .int .i64 ((fattitudeS bad g r).1.2.2.2)]) ∧ Fl b (fattitudeS bad g r).2 w' ∧ Kept b w w' := by
 have hl := hw.lies
 go_enter Tryz.func32, Tryz.ntmps32
 have y1_BF := hw.lies
 have y2_BF : b < w.heap.size + 1 := (Nat.lt_succ_of_lt hw.lies)
 have y2_B0 : w.heap.size < w.heap.size + 1 := by omega
 have y3_BF : b < w.heap.size + 1 + 1 := (Nat.lt_succ_of_lt (Nat.lt_succ_of_lt hw.lies))
 have y3_B0 : w.heap.size < w.heap.size + 1 + 1 := by omega
 have y3_B1 : w.heap.size + 1 < w.heap.size + 1 + 1 := by omega
 go_wp2_with fail
 refine wp_region_held_drew (S := fun w' => Arr (w.heap.size + 1) (row 6 r) w' ∧ Arr w.heap.size (row 43 g) w') (by kernel_rfl) ⟨((Arr_at _ _ (row 6 r) _ (by simp)).alloc _).drew, (((Arr_at _ _ (row 43 g) _ (by simp)).alloc _).alloc _).drew⟩ (fun zH => ?_)
 refine zT 0 rfl (by kernel_rfl) (fun _ _ _ => id) rfl (fun _ _ => by go_simp <;> with_reducible rfl) zH ?_
 simp only [Act.put, zA, zB, zC]
 refine zT 1 rfl (by kernel_rfl) (fun _ _ _ => id) rfl (fun _ _ => by go_simp <;> with_reducible rfl) zH ?_
 simp only [Act.put, zA, zB, zC]
 refine take_at (i := 2) rfl (by kernel_rfl) (by kernel_rfl) (by kernel_rfl) (fun _ _ _ h => h) (row_yield (by rfl) rfl rfl (fun _ hS => hS.1) (by kernel_rfl) (by rw [row_len]; kernel_rfl)) zH ?_
 simp only [Act.put, zA, zB, zC]
 refine zT 5 rfl (by kernel_rfl) (fun _ _ _ => id) rfl (fun _ _ => by go_simp <;> with_reducible rfl) zH ?_
 simp only [Act.put, zA, zB, zC]
 refine zT 6 rfl (by kernel_rfl) (fun _ _ _ => id) rfl (fun wx hS => by have hc0 : wx.cell? ⟨w.heap.size, 0, none⟩ = some (.int .i64 (g 0)) := row_c hS.2 0 (by omega); have hc1 : wx.cell? ⟨w.heap.size, 1, none⟩ = some (.int .i64 (g 1)) := row_c hS.2 1 (by omega); have hc2 : wx.cell? ⟨w.heap.size, 2, none⟩ = some (.int .i64 (g 2)) := row_c hS.2 2 (by omega); have hc3 : wx.cell? ⟨w.heap.size, 3, none⟩ = some (.int .i64 (g 3)) := row_c hS.2 3 (by omega); go_simp <;> with_reducible rfl) zH ?_
 simp only [Act.put, zA, zB, zC]
 refine zK 3 (by kernel_rfl) rfl (fun K hK => ?_)
 go_simp
 refine (ffirst_any r _).mono ?_
 rintro e w1 ⟨rfl, k1⟩
 generalize e1 : ffirstP r = r1
 have E1 : Hid _ := e1
 clear e1
 have K1 : Kept b w w1 := Kept.trans ((((Kept.refl b w).al _).al _).al _).drew (Kept.of_below k1)
 have BF_1 := (((hw.alloc _).alloc _).alloc _).drew.below k1
 have B0_1 := (((Arr_at _ w.heap.size (row 43 g) _ (by simp)).alloc _).alloc _).drew.below k1
 have B1_1 := ((Arr_at _ (w.heap.size + 1) (row 6 r) _ (by simp)).alloc _).drew.below k1
 have B2_1 := (Arr_at _ (w.heap.size + 1 + 1) [.int .i64 0, .int .i64 0, .int .i64 0, .int .i64 0] _ (by simp)).drew.below k1
 have z1 := B2_1.lies
 clear zH
 refine hK.out _ _ ⟨B1_1, B0_1⟩ (fun zH => ?_)
 clear hK K k1
 refine zK 4 (by kernel_rfl) rfl (fun K hK => ?_)
 go_simp
 refine (yFromRod_any b bad r1 _ BF_1).mono ?_
 rintro e w2 ⟨rfl, f2, k2⟩
 generalize e2 : qFromRodS bad r1 = r2 at f2 ⊢
 have E2 : Hid _ := e2
 clear e2
 have K2 := Kept.trans K1 k2
 have B0_2 := B0_1.kept k2 (zG y1_BF)
 have B1_2 := B1_1.kept k2 (zG y2_BF)
 have B2_2 := B2_1.kept k2 (zG y3_BF)
 have z2 := B2_2.lies
 clear zH
 refine hK.out _ _ ⟨B1_2, B0_2⟩ (fun zH => ?_)
 clear hK K K1 BF_1 B0_1 B1_1 B2_1 k2
 refine zK 7 (by kernel_rfl) rfl (fun K hK => ?_)
 go_simp
 refine (yMul_any b r2.2 r2.1 ((g 0), (g 1), (g 2), (g 3)) _ f2).mono ?_
 rintro e w3 ⟨rfl, f3, k3⟩
 generalize e3 : qMulS r2.2 r2.1 ((g 0), (g 1), (g 2), (g 3)) = r3 at f3 ⊢
 have E3 : Hid _ := e3
 clear e3
 have K3 := Kept.trans K2 k3
 have B0_3 := B0_2.kept k3 (zG y1_BF)
 have B1_3 := B1_2.kept k3 (zG y2_BF)
 have B2_3 := B2_2.kept k3 (zG y3_BF)
 have z3 := B2_3.lies
 clear zH
 refine hK.out _ _ ⟨B1_3, B0_3⟩ (fun zH => ?_)
 clear hK K K2 f2 B0_2 B1_2 B2_2 k3
 refine zK 8 (by kernel_rfl) rfl (fun K hK => ?_)
 have c2_B2_0 : w3.cell? ⟨w.heap.size + 1 + 1, 0, none⟩ = some (.int .i64 0) := B2_3.c 0 (zD rfl)
 have c2_B2_1 : w3.cell? ⟨w.heap.size + 1 + 1, 1, none⟩ = some (.int .i64 0) := B2_3.c 1 (zD rfl)
 have c2_B2_2 : w3.cell? ⟨w.heap.size + 1 + 1, 2, none⟩ = some (.int .i64 0) := B2_3.c 2 (zD rfl)
 have c2_B2_3 : w3.cell? ⟨w.heap.size + 1 + 1, 3, none⟩ = some (.int .i64 0) := B2_3.c 3 (zD rfl)
 have g2_B2_0 := B2_3.f 0 (zD rfl)
 have g2_B2_1 := B2_3.f 1 (zD rfl)
 have g2_B2_2 := B2_3.f 2 (zD rfl)
 have g2_B2_3 := B2_3.f 3 (zD rfl)
 go_simp
 clear zH
 refine hK.out _ _ ⟨((((B1_3.new (w.heap.size + 1 + 1) 0 (zL y3_B1) (.int .i64 r3.1.1)).new (w.heap.size + 1 + 1) 1 (zL y3_B1) (.int .i64 r3.1.2.1)).new (w.heap.size + 1 + 1) 2 (zL y3_B1) (.int .i64 r3.1.2.2.1)).new (w.heap.size + 1 + 1) 3 (zL y3_B1) (.int .i64 r3.1.2.2.2)), ((((B0_3.new (w.heap.size + 1 + 1) 0 (zL y3_B0) (.int .i64 r3.1.1)).new (w.heap.size + 1 + 1) 1 (zL y3_B0) (.int .i64 r3.1.2.1)).new (w.heap.size + 1 + 1) 2 (zL y3_B0) (.int .i64 r3.1.2.2.1)).new (w.heap.size + 1 + 1) 3 (zL y3_B0) (.int .i64 r3.1.2.2.2))⟩ (fun zH => ?_)
 clear hK K c2_B2_0 c2_B2_1 c2_B2_2 c2_B2_3 g2_B2_0 g2_B2_1 g2_B2_2 g2_B2_3
 refine wpAnyH_done (by kernel_rfl) ?_ _
 clear zH
 go_wp2_with (with_reducible refine post_stop ?_)
 refine Stop.mk ?_
 refine bodyPost_ret (v := .agg #[.int .i64 r3.1.1, .int .i64 r3.1.2.1, .int .i64 r3.1.2.2.1, .int .i64 r3.1.2.2.2]) (results_arr Tryz.results32 ((((B2_3.put 0 (zD rfl) (.int .i64 r3.1.1) [.int .i64 r3.1.1, .int .i64 0, .int .i64 0, .int .i64 0] rfl).put 1 (zD rfl) (.int .i64 r3.1.2.1) [.int .i64 r3.1.1, .int .i64 r3.1.2.1, .int .i64 0, .int .i64 0] rfl).put 2 (zD rfl) (.int .i64 r3.1.2.2.1) [.int .i64 r3.1.1, .int .i64 r3.1.2.1, .int .i64 r3.1.2.2.1, .int .i64 0] rfl).put 3 (zD rfl) (.int .i64 r3.1.2.2.2) [.int .i64 r3.1.1, .int .i64 r3.1.2.1, .int .i64 r3.1.2.2.1, .int .i64 r3.1.2.2.2] rfl) rfl (by kernel_rfl) (by kernel_rfl)) rfl ?_
 have hs : fattitudeS bad g r = (r3.1, r3.2) := by unfold fattitudeS; simp only [E1.out, E2.out, E3.out]
 rw [hs]
 exact ⟨rfl, ((((f3.new (w.heap.size + 1 + 1) 0 (zL y3_BF) (.int .i64 r3.1.1)).new (w.heap.size + 1 + 1) 1 (zL y3_BF) (.int .i64 r3.1.2.1)).new (w.heap.size + 1 + 1) 2 (zL y3_BF) (.int .i64 r3.1.2.2.1)).new (w.heap.size + 1 + 1) 3 (zL y3_BF) (.int .i64 r3.1.2.2.2)), ((((K3.new _ _ (by omega) _).new _ _ (by omega) _).new _ _ (by omega) _).new _ _ (by omega) _)⟩
end Go.Proofs.YtpjobkbefgehjaaGreat
