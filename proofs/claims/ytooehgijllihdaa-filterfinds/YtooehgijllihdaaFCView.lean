/- A part. -/
import Derived.Test.YtooehgijllihdaaXAct
import Derived.Test.YtooehgijllihdaaJH
import Derived.Test.YtooehgijllihdaaJG
import Derived.Handy
import Derived.Deep.RegionHeld3
namespace Go.Proofs.Ytooehgijllihdaa
open Go.RowKit
set_option maxRecDepth 100000
set_option maxHeartbeats 20000000
theorem hviewed_any (b : Nat) (bad : Bool) (g : Nat → Int) (x : Nat → Int) (sky : Nat → Int) (w : World) (hw : Fl b bad w) :
  Calls Try.prog 33 #[.pointer (some ⟨b, 0, none⟩), .agg (row 43 g).toArray, .agg (row 78 x).toArray, .agg (row 6 sky).toArray] w fun e w' => e = .returned (.agg (row 78 ((hviewedS bad g x sky).1)).toArray) ∧ Fl b (hviewedS bad g x sky).2 w' ∧ Kept b w w' := by
 have hl := hw.lies
 go_enter Try.func33, Try.ntmps33
 have y1_BF := hw.lies
 have y2_BF : b < w.heap.size + 1 := (Nat.lt_succ_of_lt hw.lies)
 have y2_B0 : w.heap.size < w.heap.size + 1 := by omega
 have y3_BF : b < w.heap.size + 1 + 1 := (Nat.lt_succ_of_lt (Nat.lt_succ_of_lt hw.lies))
 have y3_B0 : w.heap.size < w.heap.size + 1 + 1 := by omega
 have y3_B1 : w.heap.size + 1 < w.heap.size + 1 + 1 := by omega
 have y4_BF : b < w.heap.size + 1 + 1 + 1 := (Nat.lt_succ_of_lt (Nat.lt_succ_of_lt (Nat.lt_succ_of_lt hw.lies)))
 have y4_B0 : w.heap.size < w.heap.size + 1 + 1 + 1 := by omega
 have y4_B1 : w.heap.size + 1 < w.heap.size + 1 + 1 + 1 := by omega
 have y4_B2 : w.heap.size + 1 + 1 < w.heap.size + 1 + 1 + 1 := by omega
 have y5_BF : b < w.heap.size + 1 + 1 + 1 + 1 := (Nat.lt_succ_of_lt (Nat.lt_succ_of_lt (Nat.lt_succ_of_lt (Nat.lt_succ_of_lt hw.lies))))
 have y5_B0 : w.heap.size < w.heap.size + 1 + 1 + 1 + 1 := by omega
 have y5_B1 : w.heap.size + 1 < w.heap.size + 1 + 1 + 1 + 1 := by omega
 have y5_B2 : w.heap.size + 1 + 1 < w.heap.size + 1 + 1 + 1 + 1 := by omega
 have y5_B3 : w.heap.size + 1 + 1 + 1 < w.heap.size + 1 + 1 + 1 + 1 := by omega
 go_wp2_with (first | (refine row_load (ty := 38) rfl rfl rfl (((((Arr_at _ _ (row 43 g) _ (by simp)).alloc _).alloc _).alloc _).alloc _) (by kernel_rfl) (by rw [row_len]; kernel_rfl) ?_) | (refine row_load (ty := 61) rfl rfl rfl ((((Arr_at _ _ (row 78 x) _ (by simp)).alloc _).alloc _).alloc _) (by kernel_rfl) (by rw [row_len]; kernel_rfl) ?_))
 refine (hattitudes_any b bad g x _ (((((hw.alloc _).alloc _).alloc _).alloc _).alloc _)).mono ?_
 rintro e w1 ⟨rfl, f1, k1⟩
 generalize e1 : hattitudesS bad g x = r1 at f1 ⊢
 have E1 : Hid _ := e1
 clear e1
 try dsimp only
 have K1 : Kept b w w1 := Kept.trans ((((((Kept.refl b w).al _).al _).al _).al _).al _) k1
 have B0_1 := (((((Arr_at _ w.heap.size (row 43 g) _ (by simp)).alloc _).alloc _).alloc _).alloc _).kept k1 (zG y1_BF)
 have B1_1 := ((((Arr_at _ (w.heap.size + 1) (row 78 x) _ (by simp)).alloc _).alloc _).alloc _).kept k1 (zG y2_BF)
 have B2_1 := (((Arr_at _ (w.heap.size + 1 + 1) (row 6 sky) _ (by simp)).alloc _).alloc _).kept k1 (zG y3_BF)
 have B3_1 := ((Arr_at _ (w.heap.size + 1 + 1 + 1) (row 78 (fun _ => 0)) _ (by simp)).alloc _).kept k1 (zG y4_BF)
 have B4_1 := (Arr_at _ (w.heap.size + 1 + 1 + 1 + 1) (row 78 (fun _ => 0)) _ (by simp)).kept k1 (zG y5_BF)
 have z1 := B4_1.lies
 clear k1
 go_wp2_with fail
 obtain ⟨J0, hJ0⟩ : ∃ J : Nat → Act → World → Prop, Hid (J = fun k a Wl0 => ∀ G_ : Prop, (∀ (s0 : (Nat → Int) × Bool) (A0 C0 : Nat → Value), Hid (hviewedS_l0 sky r1 ((fun _ => 0), r1.2) k = s0) → a = { tmps := #[.pointer (some ⟨b, 0, none⟩), A0 1, A0 2, A0 3, A0 4, A0 5, A0 6, .pointer (some ⟨w.heap.size + 1 + 1, 0, none⟩), .pointer (some ⟨w.heap.size + 1 + 1 + 1, 0, none⟩), .pointer (some ⟨w.heap.size + 1 + 1 + 1 + 1, 0, none⟩), A0 10, A0 11, A0 12, A0 13, A0 14, .agg (row 52 r1.1).toArray, .int .i64 (k : Int), A0 17, A0 18, A0 19, C0 0, C0 1, C0 2, C0 3, C0 4, C0 5, C0 6, C0 7, C0 8, C0 9, C0 10, C0 11, C0 12, C0 13, C0 14, C0 15], defers := [] } → Kept b w Wl0 → Fl b s0.2 Wl0 → Arr (w.heap.size + 1 + 1) (row 6 sky) Wl0 → Arr (w.heap.size + 1 + 1 + 1) (row 78 (fun _ => 0)) Wl0 → Arr (w.heap.size + 1 + 1 + 1 + 1) (row 78 s0.1) Wl0 → G_) → G_) := ⟨_, rfl⟩
 refine rounds_up J0 13 ?_ ?_ ?_
 ·refine give_act (fun a_ ea_ => ?_)
  rw [hJ0.out]
  intro G_ hG_
  exact hG_ ((fun _ => 0), r1.2) (zS a_ 0) (zS a_ 20) rfl (by subst ea_; rfl) K1 f1 B2_1 B3_1 B4_1
 ·intro k a Wl0 hk hI R hR
  rw [hJ0.out] at hI
  refine hI _ ?_
  clear hI
  intro s0 A0 C0 El0 ea Kl0 BF_l0 B2_l0 B3_l0 B4_l0
  subst ea
  have zl0_BF := BF_l0.lies
  have zl0_B2 := B2_l0.lies
  have zl0_B3 := B3_l0.lies
  have zl0_B4 := B4_l0.lies
  have y8_BF := BF_l0.lies
  have y8_B2 := B2_l0.lies
  have y8_B3 := B3_l0.lies
  have y8_B4 := B4_l0.lies
  have i3_0 : (k : Int) < 13 := by omega
  go_wp2_with fail
  clear i3_0
  refine wp_region_held_drew (S := fun w' => Arr Wl0.heap.size [.int .i64 (r1.1 (k * 4)), .int .i64 (r1.1 (k * 4 + 1)), .int .i64 (r1.1 (k * 4 + 2)), .int .i64 (r1.1 (k * 4 + 3))] w' ∧ Arr (w.heap.size + 1 + 1) (row 6 sky) w') (by kernel_rfl) ⟨(Arr_at _ _ [.int .i64 (r1.1 (k * 4)), .int .i64 (r1.1 (k * 4 + 1)), .int .i64 (r1.1 (k * 4 + 2)), .int .i64 (r1.1 (k * 4 + 3))] _ (by simp)).drew, (B2_l0.alloc _).drew⟩ (fun zH => ?_)
  refine zT 0 rfl (by kernel_rfl) (fun _ _ _ => id) rfl (fun _ _ => by go_simp <;> with_reducible rfl) zH ?_
  simp only [Act.put, zA, zB, zC]
  refine zT 1 rfl (by kernel_rfl) (fun _ _ _ => id) rfl (fun _ _ => by go_simp <;> with_reducible rfl) zH ?_
  simp only [Act.put, zA, zB, zC]
  refine zT 2 rfl (by kernel_rfl) (fun _ _ _ => id) rfl (fun wx hS => by have hc0 : wx.cell? ⟨Wl0.heap.size, 0, none⟩ = some (.int .i64 (r1.1 (k * 4))) := hS.1.c 0 (zD rfl); have hc1 : wx.cell? ⟨Wl0.heap.size, 1, none⟩ = some (.int .i64 (r1.1 (k * 4 + 1))) := hS.1.c 1 (zD rfl); have hc2 : wx.cell? ⟨Wl0.heap.size, 2, none⟩ = some (.int .i64 (r1.1 (k * 4 + 2))) := hS.1.c 2 (zD rfl); have hc3 : wx.cell? ⟨Wl0.heap.size, 3, none⟩ = some (.int .i64 (r1.1 (k * 4 + 3))) := hS.1.c 3 (zD rfl); go_simp <;> with_reducible rfl) zH ?_
  simp only [Act.put, zA, zB, zC]
  refine zT 3 rfl (by kernel_rfl) (fun _ _ _ => id) rfl (fun _ _ => by go_simp <;> with_reducible rfl) zH ?_
  simp only [Act.put, zA, zB, zC]
  refine zT 4 rfl (by kernel_rfl) (fun _ _ _ => id) rfl (fun wx hS => by have hc0 : wx.cell? ⟨w.heap.size + 1 + 1, 0, none⟩ = some (.int .i64 (sky 0)) := row_c hS.2 0 (by omega); have hc1 : wx.cell? ⟨w.heap.size + 1 + 1, 1, none⟩ = some (.int .i64 (sky 1)) := row_c hS.2 1 (by omega); have hc2 : wx.cell? ⟨w.heap.size + 1 + 1, 2, none⟩ = some (.int .i64 (sky 2)) := row_c hS.2 2 (by omega); go_simp <;> with_reducible rfl) zH ?_
  simp only [Act.put, zA, zB, zC]
  refine zT 6 rfl (by kernel_rfl) (fun _ _ _ => id) rfl (fun _ _ => by go_simp <;> with_reducible rfl) zH ?_
  simp only [Act.put, zA, zB, zC]
  refine zT 7 rfl (by kernel_rfl) (fun _ _ _ => id) rfl (fun wx hS => by have hc0 : wx.cell? ⟨Wl0.heap.size, 0, none⟩ = some (.int .i64 (r1.1 (k * 4))) := hS.1.c 0 (zD rfl); have hc1 : wx.cell? ⟨Wl0.heap.size, 1, none⟩ = some (.int .i64 (r1.1 (k * 4 + 1))) := hS.1.c 1 (zD rfl); have hc2 : wx.cell? ⟨Wl0.heap.size, 2, none⟩ = some (.int .i64 (r1.1 (k * 4 + 2))) := hS.1.c 2 (zD rfl); have hc3 : wx.cell? ⟨Wl0.heap.size, 3, none⟩ = some (.int .i64 (r1.1 (k * 4 + 3))) := hS.1.c 3 (zD rfl); go_simp <;> with_reducible rfl) zH ?_
  simp only [Act.put, zA, zB, zC]
  refine zT 8 rfl (by kernel_rfl) (fun _ _ _ => id) rfl (fun _ _ => by go_simp <;> with_reducible rfl) zH ?_
  simp only [Act.put, zA, zB, zC]
  refine zT 9 rfl (by kernel_rfl) (fun _ _ _ => id) rfl (fun wx hS => by have hc0 : wx.cell? ⟨w.heap.size + 1 + 1, 3, none⟩ = some (.int .i64 (sky 3)) := row_c hS.2 3 (by omega); have hc1 : wx.cell? ⟨w.heap.size + 1 + 1, 4, none⟩ = some (.int .i64 (sky 4)) := row_c hS.2 4 (by omega); have hc2 : wx.cell? ⟨w.heap.size + 1 + 1, 5, none⟩ = some (.int .i64 (sky 5)) := row_c hS.2 5 (by omega); go_simp <;> with_reducible rfl) zH ?_
  simp only [Act.put, zA, zB, zC]
  refine zK 5 (by kernel_rfl) rfl (fun K hK => ?_)
  go_simp
  refine (qTurn_any b s0.2 ((r1.1 (k * 4)), (r1.1 (k * 4 + 1)), (r1.1 (k * 4 + 2)), (r1.1 (k * 4 + 3))) ((sky 0), (sky 1), (sky 2)) _ (BF_l0.alloc _).drew).mono ?_
  rintro e w2 ⟨rfl, f2, k2⟩
  generalize e2 : qTurnS s0.2 ((r1.1 (k * 4)), (r1.1 (k * 4 + 1)), (r1.1 (k * 4 + 2)), (r1.1 (k * 4 + 3))) ((sky 0), (sky 1), (sky 2)) = r2 at f2 ⊢
  have E2 : Hid _ := e2
  clear e2
  have K2 : Kept b w w2 := Kept.trans (Kl0.al _).drew k2
  have B2_2 := (B2_l0.alloc _).drew.kept k2 (zG y3_BF)
  have B3_2 := (B3_l0.alloc _).drew.kept k2 (zG y4_BF)
  have B4_2 := (B4_l0.alloc _).drew.kept k2 (zG y5_BF)
  have B5_2 := (Arr_at _ Wl0.heap.size [.int .i64 (r1.1 (k * 4)), .int .i64 (r1.1 (k * 4 + 1)), .int .i64 (r1.1 (k * 4 + 2)), .int .i64 (r1.1 (k * 4 + 3))] _ (by simp)).drew.kept k2 (zG y8_BF)
  have z2 := B5_2.lies
  clear zH
  refine hK.out _ _ ⟨B5_2, B2_2⟩ (fun zH => ?_)
  clear hK K BF_l0 B2_l0 B3_l0 B4_l0 k2
  refine zK 10 (by kernel_rfl) rfl (fun K hK => ?_)
  go_simp
  refine (qTurn_any b r2.2 ((r1.1 (k * 4)), (r1.1 (k * 4 + 1)), (r1.1 (k * 4 + 2)), (r1.1 (k * 4 + 3))) ((sky 3), (sky 4), (sky 5)) _ f2).mono ?_
  rintro e w3 ⟨rfl, f3, k3⟩
  generalize e3 : qTurnS r2.2 ((r1.1 (k * 4)), (r1.1 (k * 4 + 1)), (r1.1 (k * 4 + 2)), (r1.1 (k * 4 + 3))) ((sky 3), (sky 4), (sky 5)) = r3 at f3 ⊢
  have E3 : Hid _ := e3
  clear e3
  have K3 := Kept.trans K2 k3
  have B2_3 := B2_2.kept k3 (zG y3_BF)
  have B3_3 := B3_2.kept k3 (zG y4_BF)
  have B4_3 := B4_2.kept k3 (zG y5_BF)
  have B5_3 := B5_2.kept k3 (zG y8_BF)
  have z3 := B5_3.lies
  clear zH
  refine hK.out _ _ ⟨B5_3, B2_3⟩ (fun zH => ?_)
  clear hK K K2 f2 B2_2 B3_2 B4_2 B5_2 k3
  refine zT 11 rfl (by kernel_rfl) (fun _ _ _ => id) rfl (fun _ _ => by go_simp <;> with_reducible rfl) zH ?_
  simp only [Act.put, zA, zB, zC]
  refine zK 12 (by kernel_rfl) rfl (fun K hK => ?_)
  go_simp
  refine (hjoined_any (r2.1.1, r2.1.2.1, r2.1.2.2, r3.1.1, r3.1.2.1, r3.1.2.2) _).mono ?_
  rintro e w4 ⟨rfl, k4⟩
  generalize e4 : hjoinedP (r2.1.1, r2.1.2.1, r2.1.2.2, r3.1.1, r3.1.2.1, r3.1.2.2) = r4
  have E4 : Hid _ := e4
  clear e4
  have K4 : Kept b w w4 := Kept.trans K3 (Kept.of_below k4)
  have BF_4 := f3.below k4
  have B2_4 := B2_3.below k4
  have B3_4 := B3_3.below k4
  have B4_4 := B4_3.below k4
  have B5_4 := B5_3.below k4
  have z4 := B5_4.lies
  clear zH
  refine hK.out _ _ ⟨B5_4, B2_4⟩ (fun zH => ?_)
  clear hK K K3 f3 B2_3 B3_3 B4_3 B5_3 k4
  refine zT 13 rfl (by kernel_rfl) (fun _ _ _ => id) rfl (fun _ _ => by have hi0 : (k : Int) < 13 := (by omega); go_simp <;> with_reducible rfl) zH ?_
  simp only [Act.put, zA, zB, zC]
  refine zK 14 (by kernel_rfl) rfl (fun K hK => ?_)
  have c4_B4_0 : w4.cell? ⟨w.heap.size + 1 + 1 + 1 + 1, k * 6 + 1, none⟩ = some (.int .i64 (s0.1 (k * 6 + 1))) := row_c B4_4 (k * 6 + 1) (by omega)
  have c4_B4_1 : w4.cell? ⟨w.heap.size + 1 + 1 + 1 + 1, k * 6 + 2, none⟩ = some (.int .i64 (s0.1 (k * 6 + 2))) := row_c B4_4 (k * 6 + 2) (by omega)
  have c4_B4_2 : w4.cell? ⟨w.heap.size + 1 + 1 + 1 + 1, k * 6 + 3, none⟩ = some (.int .i64 (s0.1 (k * 6 + 3))) := row_c B4_4 (k * 6 + 3) (by omega)
  have c4_B4_3 : w4.cell? ⟨w.heap.size + 1 + 1 + 1 + 1, k * 6 + 4, none⟩ = some (.int .i64 (s0.1 (k * 6 + 4))) := row_c B4_4 (k * 6 + 4) (by omega)
  have c4_B4_4 : w4.cell? ⟨w.heap.size + 1 + 1 + 1 + 1, k * 6 + 5, none⟩ = some (.int .i64 (s0.1 (k * 6 + 5))) := row_c B4_4 (k * 6 + 5) (by omega)
  have c4_B4_5 : w4.cell? ⟨w.heap.size + 1 + 1 + 1 + 1, k * 6, none⟩ = some (.int .i64 (s0.1 (k * 6))) := row_c B4_4 (k * 6) (by omega)
  have g4_B4_6 := row_f B4_4 (k * 6 + 1) (by omega)
  have g4_B4_7 := row_f B4_4 (k * 6 + 2) (by omega)
  have g4_B4_8 := row_f B4_4 (k * 6 + 3) (by omega)
  have g4_B4_9 := row_f B4_4 (k * 6 + 4) (by omega)
  have g4_B4_10 := row_f B4_4 (k * 6 + 5) (by omega)
  have g4_B4_11 := row_f B4_4 (k * 6) (by omega)
  go_simp
  clear zH
  refine hK.out _ _ ⟨((((((B5_4.new (w.heap.size + 1 + 1 + 1 + 1) (k * 6) (zG y8_B4) (.int .i64 r4.1)).new (w.heap.size + 1 + 1 + 1 + 1) (k * 6 + 1) (zG y8_B4) (.int .i64 r4.2.1)).new (w.heap.size + 1 + 1 + 1 + 1) (k * 6 + 2) (zG y8_B4) (.int .i64 r4.2.2.1)).new (w.heap.size + 1 + 1 + 1 + 1) (k * 6 + 3) (zG y8_B4) (.int .i64 r4.2.2.2.1)).new (w.heap.size + 1 + 1 + 1 + 1) (k * 6 + 4) (zG y8_B4) (.int .i64 r4.2.2.2.2.1)).new (w.heap.size + 1 + 1 + 1 + 1) (k * 6 + 5) (zG y8_B4) (.int .i64 r4.2.2.2.2.2)), ((((((B2_4.new (w.heap.size + 1 + 1 + 1 + 1) (k * 6) (zL y5_B2) (.int .i64 r4.1)).new (w.heap.size + 1 + 1 + 1 + 1) (k * 6 + 1) (zL y5_B2) (.int .i64 r4.2.1)).new (w.heap.size + 1 + 1 + 1 + 1) (k * 6 + 2) (zL y5_B2) (.int .i64 r4.2.2.1)).new (w.heap.size + 1 + 1 + 1 + 1) (k * 6 + 3) (zL y5_B2) (.int .i64 r4.2.2.2.1)).new (w.heap.size + 1 + 1 + 1 + 1) (k * 6 + 4) (zL y5_B2) (.int .i64 r4.2.2.2.2.1)).new (w.heap.size + 1 + 1 + 1 + 1) (k * 6 + 5) (zL y5_B2) (.int .i64 r4.2.2.2.2.2))⟩ (fun zH => ?_)
  clear hK K c4_B4_0 c4_B4_1 c4_B4_2 c4_B4_3 c4_B4_4 c4_B4_5 g4_B4_6 g4_B4_7 g4_B4_8 g4_B4_9 g4_B4_10 g4_B4_11
  refine wpAnyH_done (by kernel_rfl) ?_ _
  clear zH
  go_wp2_with fail
  have hs0 : Hid (hviewedS_l0 sky r1 ((fun _ => 0), r1.2) (k + 1) = ((updF (updF (updF (updF (updF (updF s0.1 (k * 6) r4.1) (k * 6 + 1) r4.2.1) (k * 6 + 2) r4.2.2.1) (k * 6 + 3) r4.2.2.2.1) (k * 6 + 4) r4.2.2.2.2.1) (k * 6 + 5) r4.2.2.2.2.2), r3.2)) := by show _ = _; rw [hviewedS_l0_succ]; unfold hviewedS_l0s; simp only [El0.out, E2.out, E3.out, E4.out]
  refine give_act (fun a_ ea_ => ?_)
  rw [hJ0.out]
  intro G_ hG_
  exact hG_ ((updF (updF (updF (updF (updF (updF s0.1 (k * 6) r4.1) (k * 6 + 1) r4.2.1) (k * 6 + 2) r4.2.2.1) (k * 6 + 3) r4.2.2.2.1) (k * 6 + 4) r4.2.2.2.2.1) (k * 6 + 5) r4.2.2.2.2.2), r3.2) (zS a_ 0) (zS a_ 20) hs0 (by subst ea_; rfl) ((((((K4.new _ _ (by omega) _).new _ _ (by omega) _).new _ _ (by omega) _).new _ _ (by omega) _).new _ _ (by omega) _).new _ _ (by omega) _) ((((((BF_4.new (w.heap.size + 1 + 1 + 1 + 1) (k * 6) (zL y5_BF) (.int .i64 r4.1)).new (w.heap.size + 1 + 1 + 1 + 1) (k * 6 + 1) (zL y5_BF) (.int .i64 r4.2.1)).new (w.heap.size + 1 + 1 + 1 + 1) (k * 6 + 2) (zL y5_BF) (.int .i64 r4.2.2.1)).new (w.heap.size + 1 + 1 + 1 + 1) (k * 6 + 3) (zL y5_BF) (.int .i64 r4.2.2.2.1)).new (w.heap.size + 1 + 1 + 1 + 1) (k * 6 + 4) (zL y5_BF) (.int .i64 r4.2.2.2.2.1)).new (w.heap.size + 1 + 1 + 1 + 1) (k * 6 + 5) (zL y5_BF) (.int .i64 r4.2.2.2.2.2)) ((((((B2_4.new (w.heap.size + 1 + 1 + 1 + 1) (k * 6) (zL y5_B2) (.int .i64 r4.1)).new (w.heap.size + 1 + 1 + 1 + 1) (k * 6 + 1) (zL y5_B2) (.int .i64 r4.2.1)).new (w.heap.size + 1 + 1 + 1 + 1) (k * 6 + 2) (zL y5_B2) (.int .i64 r4.2.2.1)).new (w.heap.size + 1 + 1 + 1 + 1) (k * 6 + 3) (zL y5_B2) (.int .i64 r4.2.2.2.1)).new (w.heap.size + 1 + 1 + 1 + 1) (k * 6 + 4) (zL y5_B2) (.int .i64 r4.2.2.2.2.1)).new (w.heap.size + 1 + 1 + 1 + 1) (k * 6 + 5) (zL y5_B2) (.int .i64 r4.2.2.2.2.2)) ((((((B3_4.new (w.heap.size + 1 + 1 + 1 + 1) (k * 6) (zL y5_B3) (.int .i64 r4.1)).new (w.heap.size + 1 + 1 + 1 + 1) (k * 6 + 1) (zL y5_B3) (.int .i64 r4.2.1)).new (w.heap.size + 1 + 1 + 1 + 1) (k * 6 + 2) (zL y5_B3) (.int .i64 r4.2.2.1)).new (w.heap.size + 1 + 1 + 1 + 1) (k * 6 + 3) (zL y5_B3) (.int .i64 r4.2.2.2.1)).new (w.heap.size + 1 + 1 + 1 + 1) (k * 6 + 4) (zL y5_B3) (.int .i64 r4.2.2.2.2.1)).new (w.heap.size + 1 + 1 + 1 + 1) (k * 6 + 5) (zL y5_B3) (.int .i64 r4.2.2.2.2.2)) (row_put (row_put (row_put (row_put (row_put (row_put B4_4 (k * 6) (by omega) r4.1) (k * 6 + 1) (by omega) r4.2.1) (k * 6 + 2) (by omega) r4.2.2.1) (k * 6 + 3) (by omega) r4.2.2.2.1) (k * 6 + 4) (by omega) r4.2.2.2.2.1) (k * 6 + 5) (by omega) r4.2.2.2.2.2)
 ·intro a Wl0 hI R
  rw [hJ0.out] at hI
  refine hI _ ?_
  clear hI hJ0
  intro r5 A0 C0 E5 ea Kl0 BF_l0 B2_l0 B3_l0 B4_l0
  subst ea
  have zl0_BF := BF_l0.lies
  have zl0_B2 := B2_l0.lies
  have zl0_B3 := B3_l0.lies
  have zl0_B4 := B4_l0.lies
  go_wp2_with (first | (refine row_load (ty := 61) rfl rfl rfl B4_l0 (by kernel_rfl) (by rw [row_len]; kernel_rfl) ?_) | (refine store_stop rfl (by kernel_rfl) ?_))
  refine Stop.mk (store_row (l' := row 78 r5.1) rfl rfl rfl rfl B3_l0 (by simp only [row_len]) (by rw [row_len]; kernel_rfl) (row_one _ _) ?_)
  intro w6 B3_6 o6
  have K6 : Kept b w w6 := Kept.off Kl0 o6 (by omega)
  have BF_6 := BF_l0.off o6 (zL y4_BF)
  have B4_6 := B4_l0.off o6 (zG y5_B3)
  have z6_B3 := B3_6.lies
  have z6_BF := BF_6.lies
  have z6_B4 := B4_6.lies
  clear B3_l0 BF_l0 B4_l0 o6
  go_wp2_with (with_reducible refine post_stop ?_)
  refine Stop.mk ?_
  refine bodyPost_ret (v := .agg (row 78 r5.1).toArray) (results_arr Try.results33 B3_6 rfl (by kernel_rfl) (by rw [row_len]; kernel_rfl)) rfl ?_
  have hs : hviewedS bad g x sky = (r5.1, r5.2) := by unfold hviewedS; simp only [E1.out, E5.out]
  rw [hs]
  exact ⟨rfl, BF_6, K6⟩
end Go.Proofs.Ytooehgijllihdaa
