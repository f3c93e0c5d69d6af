/- A part. -/
import Derived.Test.YtooehgijllihdaaXAct
import Derived.Test.YtooehgijllihdaaJF
import Derived.Test.YtooehgijllihdaaJH
import Derived.Test.YtooehgijllihdaaJC
import Derived.Handy
import Derived.Deep.RegionHeld3
namespace Go.Proofs.Ytooehgijllihdaa
open Go.RowKit
set_option maxRecDepth 100000
set_option maxHeartbeats 20000000
theorem hmet_any (b : Nat) (bad : Bool) (g : Nat → Int) (l : Nat → Int) (c : Nat → Int) (y : Nat → Int) (w : World) (hw : Fl b bad w) :
  Calls Try.prog 44 #[.pointer (some ⟨b, 0, none⟩), .agg (row 43 g).toArray, .agg (row 36 l).toArray, .agg (row 36 c).toArray, .agg (row 6 y).toArray] w fun e w' => e = .returned (.agg (row 43 ((hmetS bad g l c y).1)).toArray) ∧ Fl b (hmetS bad g l c y).2 w' ∧ Kept b w w' := by
 have hl := hw.lies
 go_enter Try.func44, Try.ntmps44
 have y1_BF := hw.lies
 have y2_BF : b < w.heap.size + 1 := (Nat.lt_succ_of_lt hw.lies)
 have y2_B0 : w.heap.size < w.heap.size + 1 := by omega
 have y3_BF : b < w.heap.size + 1 + 1 := (Nat.lt_succ_of_lt (Nat.lt_succ_of_lt hw.lies))
 have y3_B0 : w.heap.size < w.heap.size + 1 + 1 := by omega
 have y3_B1 : w.heap.size + 1 < w.heap.size + 1 + 1 := by omega
 have y4_BF : b < w.heap.size + 1 + 1 + 1 := (Nat.lt_succ_of_lt (Nat.lt_succ_of_lt (Nat.lt_succ_of_lt hw.lies)))
 have y4_B0 : w.heap.size < w.heap.size + 1 + 1 + 1 := by omega
 have y4_B1 : w.heap.size + 1 < w.heap.size + 1 + 1 + 1 := by omega
 have y4_B2 : w.heap.size + 1 + 1 < w.heap.size + 1 + 1 + 1 := by omega
 have y5_BF : b < w.heap.size + 1 + 1 + 1 + 1 := (Nat.lt_succ_of_lt (Nat.lt_succ_of_lt (Nat.lt_succ_of_lt (Nat.lt_succ_of_lt hw.lies))))
 have y5_B0 : w.heap.size < w.heap.size + 1 + 1 + 1 + 1 := by omega
 have y5_B1 : w.heap.size + 1 < w.heap.size + 1 + 1 + 1 + 1 := by omega
 have y5_B2 : w.heap.size + 1 + 1 < w.heap.size + 1 + 1 + 1 + 1 := by omega
 have y5_B3 : w.heap.size + 1 + 1 + 1 < w.heap.size + 1 + 1 + 1 + 1 := by omega
 have y6_BF : b < w.heap.size + 1 + 1 + 1 + 1 + 1 := (Nat.lt_succ_of_lt (Nat.lt_succ_of_lt (Nat.lt_succ_of_lt (Nat.lt_succ_of_lt (Nat.lt_succ_of_lt hw.lies)))))
 have y6_B0 : w.heap.size < w.heap.size + 1 + 1 + 1 + 1 + 1 := by omega
 have y6_B1 : w.heap.size + 1 < w.heap.size + 1 + 1 + 1 + 1 + 1 := by omega
 have y6_B2 : w.heap.size + 1 + 1 < w.heap.size + 1 + 1 + 1 + 1 + 1 := by omega
 have y6_B3 : w.heap.size + 1 + 1 + 1 < w.heap.size + 1 + 1 + 1 + 1 + 1 := by omega
 have y6_B4 : w.heap.size + 1 + 1 + 1 + 1 < w.heap.size + 1 + 1 + 1 + 1 + 1 := by omega
 have y7_BF : b < w.heap.size + 1 + 1 + 1 + 1 + 1 + 1 := (Nat.lt_succ_of_lt (Nat.lt_succ_of_lt (Nat.lt_succ_of_lt (Nat.lt_succ_of_lt (Nat.lt_succ_of_lt (Nat.lt_succ_of_lt hw.lies))))))
 have y7_B0 : w.heap.size < w.heap.size + 1 + 1 + 1 + 1 + 1 + 1 := by omega
 have y7_B1 : w.heap.size + 1 < w.heap.size + 1 + 1 + 1 + 1 + 1 + 1 := by omega
 have y7_B2 : w.heap.size + 1 + 1 < w.heap.size + 1 + 1 + 1 + 1 + 1 + 1 := by omega
 have y7_B3 : w.heap.size + 1 + 1 + 1 < w.heap.size + 1 + 1 + 1 + 1 + 1 + 1 := by omega
 have y7_B4 : w.heap.size + 1 + 1 + 1 + 1 < w.heap.size + 1 + 1 + 1 + 1 + 1 + 1 := by omega
 have y7_B5 : w.heap.size + 1 + 1 + 1 + 1 + 1 < w.heap.size + 1 + 1 + 1 + 1 + 1 + 1 := by omega
 go_wp2_with fail
 obtain ⟨J0, hJ0⟩ : ∃ J : Nat → Act → World → Prop, Hid (J = fun i a Wl0 => ∀ G_ : Prop, (∀ (s0 : (Nat → Int) × (Nat → Int) × Bool) (A0 C0 D0 : Nat → Value), Hid (hmetS_l0 g l c ((fun _ => 0), (fun _ => 0), bad) i = s0) → a = { tmps := #[.pointer (some ⟨b, 0, none⟩), A0 1, A0 2, A0 3, A0 4, A0 5, .pointer (some ⟨w.heap.size, 0, none⟩), .pointer (some ⟨w.heap.size + 1, 0, none⟩), .pointer (some ⟨w.heap.size + 1 + 1, 0, none⟩), .pointer (some ⟨w.heap.size + 1 + 1 + 1, 0, none⟩), .pointer (some ⟨w.heap.size + 1 + 1 + 1 + 1, 0, none⟩), .pointer (some ⟨w.heap.size + 1 + 1 + 1 + 1 + 1, 0, none⟩), .pointer (some ⟨w.heap.size + 1 + 1 + 1 + 1 + 1 + 1, 0, none⟩), A0 13, A0 14, .int .i64 (i : Int), A0 16, A0 17, A0 18, A0 19, C0 0, C0 1, C0 2, C0 3, C0 4, C0 5, C0 6, C0 7, C0 8, C0 9, C0 10, C0 11, C0 12, C0 13, C0 14, C0 15, C0 16, C0 17, C0 18, C0 19, D0 0, D0 1, D0 2, D0 3, D0 4, D0 5, D0 6, D0 7, D0 8, D0 9, D0 10, D0 11, D0 12, D0 13, D0 14, D0 15, D0 16, D0 17, D0 18], defers := [] } → Kept b w Wl0 → Fl b s0.2.2 Wl0 → Arr w.heap.size (row 43 g) Wl0 → Arr (w.heap.size + 1) (row 36 l) Wl0 → Arr (w.heap.size + 1 + 1) (row 36 c) Wl0 → Arr (w.heap.size + 1 + 1 + 1) (row 6 y) Wl0 → Arr (w.heap.size + 1 + 1 + 1 + 1) (row 43 (fun _ => 0)) Wl0 → Arr (w.heap.size + 1 + 1 + 1 + 1 + 1) (row 36 s0.1) Wl0 → Arr (w.heap.size + 1 + 1 + 1 + 1 + 1 + 1) (row 36 s0.2.1) Wl0 → G_) → G_) := ⟨_, rfl⟩
 refine rounds_up J0 6 ?_ ?_ ?_
 ·refine give_act (fun a_ ea_ => ?_)
  rw [hJ0.out]
  intro G_ hG_
  exact hG_ ((fun _ => 0), (fun _ => 0), bad) (zS a_ 0) (zS a_ 20) (zS a_ 40) rfl (by subst ea_; rfl) ((((((((Kept.refl b w).al _).al _).al _).al _).al _).al _).al _) (((((((hw.alloc _).alloc _).alloc _).alloc _).alloc _).alloc _).alloc _) (((((((Arr_at _ _ (row 43 g) _ (by simp)).alloc _).alloc _).alloc _).alloc _).alloc _).alloc _) ((((((Arr_at _ _ (row 36 l) _ (by simp)).alloc _).alloc _).alloc _).alloc _).alloc _) (((((Arr_at _ _ (row 36 c) _ (by simp)).alloc _).alloc _).alloc _).alloc _) ((((Arr_at _ _ (row 6 y) _ (by simp)).alloc _).alloc _).alloc _) (((Arr_at _ _ (row 43 (fun _ => 0)) _ (by simp)).alloc _).alloc _) ((Arr_at _ _ (row 36 (fun _ => 0)) _ (by simp)).alloc _) (Arr_at _ _ (row 36 (fun _ => 0)) _ (by simp))
 ·intro i a Wl0 hi hI R hR
  rw [hJ0.out] at hI
  refine hI _ ?_
  clear hI
  intro s0 A0 C0 D0 El0 ea Kl0 BF_l0 B0_l0 B1_l0 B2_l0 B3_l0 B4_l0 B5_l0 B6_l0
  subst ea
  have zl0_BF := BF_l0.lies
  have zl0_B0 := B0_l0.lies
  have zl0_B1 := B1_l0.lies
  have zl0_B2 := B2_l0.lies
  have zl0_B3 := B3_l0.lies
  have zl0_B4 := B4_l0.lies
  have zl0_B5 := B5_l0.lies
  have zl0_B6 := B6_l0.lies
  go_wp2_with fail
  refine wp_region_held_drew (S := fun w' => Arr (w.heap.size + 1) (row 36 l) w' ∧ Arr (w.heap.size + 1 + 1) (row 36 c) w') (by kernel_rfl) ⟨B1_l0.drew, B2_l0.drew⟩ (fun zH => ?_)
  refine zT 0 rfl (by kernel_rfl) (fun _ _ _ => id) rfl (fun _ _ => by go_simp <;> with_reducible rfl) zH ?_
  simp only [Act.put, zA, zB, zC]
  refine zT 1 rfl (by kernel_rfl) (fun _ _ _ => id) rfl (fun _ _ => by go_simp <;> with_reducible rfl) zH ?_
  simp only [Act.put, zA, zB, zC]
  refine take_at (i := 2) rfl (by kernel_rfl) (by kernel_rfl) (by kernel_rfl) (fun _ _ _ h => h) (row_yield (by rfl) rfl rfl (fun _ hS => hS.1) (by kernel_rfl) (by rw [row_len]; kernel_rfl)) zH ?_
  simp only [Act.put, zA, zB, zC]
  refine zT 3 rfl (by kernel_rfl) (fun _ _ _ => id) rfl (fun _ _ => by go_simp <;> with_reducible rfl) zH ?_
  simp only [Act.put, zA, zB, zC]
  refine zT 4 rfl (by kernel_rfl) (fun _ _ _ => id) rfl (fun _ _ => by have hi0 : (i : Int) < 6 := (by omega); go_simp <;> with_reducible rfl) zH ?_
  simp only [Act.put, zA, zB, zC]
  refine take_at (i := 5) rfl (by kernel_rfl) (by kernel_rfl) (by kernel_rfl) (fun _ _ _ h => h) (part_yield (M := 6) (by rfl) rfl rfl (fun _ hS => hS.2) (by omega) (by kernel_rfl) (by rw [row_len]; kernel_rfl)) zH ?_
  simp only [Act.put, zA, zB, zC]
  refine zK 6 (by kernel_rfl) rfl (fun K hK => ?_)
  go_simp
  refine (hSolve6_any b s0.2.2 l (fun x_ => c (i * 6 + x_)) _ BF_l0.drew).mono ?_
  rintro e w1 ⟨rfl, f1, k1⟩
  generalize e1 : zSolve6 s0.2.2 l (fun x_ => c (i * 6 + x_)) = r1 at f1 ⊢
  have E1 : Hid _ := e1
  clear e1
  have K1 : Kept b w w1 := Kept.trans Kl0.drew k1
  have B0_1 := B0_l0.drew.kept k1 (zG y1_BF)
  have B1_1 := B1_l0.drew.kept k1 (zG y2_BF)
  have B2_1 := B2_l0.drew.kept k1 (zG y3_BF)
  have B3_1 := B3_l0.drew.kept k1 (zG y4_BF)
  have B4_1 := B4_l0.drew.kept k1 (zG y5_BF)
  have B5_1 := B5_l0.drew.kept k1 (zG y6_BF)
  have B6_1 := B6_l0.drew.kept k1 (zG y7_BF)
  have z1 := B6_1.lies
  clear zH
  refine hK.out _ _ ⟨B1_1, B2_1⟩ (fun zH => ?_)
  clear hK K BF_l0 B0_l0 B1_l0 B2_l0 B3_l0 B4_l0 B5_l0 B6_l0 k1
  refine zT 7 rfl (by kernel_rfl) (fun _ _ _ => id) rfl (fun _ _ => by have hi0 : (i : Int) < 6 := (by omega); go_simp <;> with_reducible rfl) zH ?_
  simp only [Act.put, zA, zB, zC]
  refine zK 8 (by kernel_rfl) rfl (fun K hK => ?_)
  have c3_B5_0 : w1.cell? ⟨w.heap.size + 1 + 1 + 1 + 1 + 1, i * 6 + 1, none⟩ = some (.int .i64 (s0.1 (i * 6 + 1))) := row_c B5_1 (i * 6 + 1) (by omega)
  have c3_B5_1 : w1.cell? ⟨w.heap.size + 1 + 1 + 1 + 1 + 1, i * 6 + 2, none⟩ = some (.int .i64 (s0.1 (i * 6 + 2))) := row_c B5_1 (i * 6 + 2) (by omega)
  have c3_B5_2 : w1.cell? ⟨w.heap.size + 1 + 1 + 1 + 1 + 1, i * 6 + 3, none⟩ = some (.int .i64 (s0.1 (i * 6 + 3))) := row_c B5_1 (i * 6 + 3) (by omega)
  have c3_B5_3 : w1.cell? ⟨w.heap.size + 1 + 1 + 1 + 1 + 1, i * 6 + 4, none⟩ = some (.int .i64 (s0.1 (i * 6 + 4))) := row_c B5_1 (i * 6 + 4) (by omega)
  have c3_B5_4 : w1.cell? ⟨w.heap.size + 1 + 1 + 1 + 1 + 1, i * 6 + 5, none⟩ = some (.int .i64 (s0.1 (i * 6 + 5))) := row_c B5_1 (i * 6 + 5) (by omega)
  have c3_B5_5 : w1.cell? ⟨w.heap.size + 1 + 1 + 1 + 1 + 1, i * 6, none⟩ = some (.int .i64 (s0.1 (i * 6))) := row_c B5_1 (i * 6) (by omega)
  have g3_B5_6 := row_f B5_1 (i * 6 + 1) (by omega)
  have g3_B5_7 := row_f B5_1 (i * 6 + 2) (by omega)
  have g3_B5_8 := row_f B5_1 (i * 6 + 3) (by omega)
  have g3_B5_9 := row_f B5_1 (i * 6 + 4) (by omega)
  have g3_B5_10 := row_f B5_1 (i * 6 + 5) (by omega)
  have g3_B5_11 := row_f B5_1 (i * 6) (by omega)
  have hrow : (row 6 r1.1).toArray = #[.int .i64 (r1.1 0), .int .i64 (r1.1 1), .int .i64 (r1.1 2), .int .i64 (r1.1 3), .int .i64 (r1.1 4), .int .i64 (r1.1 5)] := rfl
  go_simp
  clear zH
  refine hK.out _ _ ⟨((((((B1_1.new (w.heap.size + 1 + 1 + 1 + 1 + 1) (i * 6) (zL y6_B1) (.int .i64 (r1.1 0))).new (w.heap.size + 1 + 1 + 1 + 1 + 1) (i * 6 + 1) (zL y6_B1) (.int .i64 (r1.1 1))).new (w.heap.size + 1 + 1 + 1 + 1 + 1) (i * 6 + 2) (zL y6_B1) (.int .i64 (r1.1 2))).new (w.heap.size + 1 + 1 + 1 + 1 + 1) (i * 6 + 3) (zL y6_B1) (.int .i64 (r1.1 3))).new (w.heap.size + 1 + 1 + 1 + 1 + 1) (i * 6 + 4) (zL y6_B1) (.int .i64 (r1.1 4))).new (w.heap.size + 1 + 1 + 1 + 1 + 1) (i * 6 + 5) (zL y6_B1) (.int .i64 (r1.1 5))), ((((((B2_1.new (w.heap.size + 1 + 1 + 1 + 1 + 1) (i * 6) (zL y6_B2) (.int .i64 (r1.1 0))).new (w.heap.size + 1 + 1 + 1 + 1 + 1) (i * 6 + 1) (zL y6_B2) (.int .i64 (r1.1 1))).new (w.heap.size + 1 + 1 + 1 + 1 + 1) (i * 6 + 2) (zL y6_B2) (.int .i64 (r1.1 2))).new (w.heap.size + 1 + 1 + 1 + 1 + 1) (i * 6 + 3) (zL y6_B2) (.int .i64 (r1.1 3))).new (w.heap.size + 1 + 1 + 1 + 1 + 1) (i * 6 + 4) (zL y6_B2) (.int .i64 (r1.1 4))).new (w.heap.size + 1 + 1 + 1 + 1 + 1) (i * 6 + 5) (zL y6_B2) (.int .i64 (r1.1 5)))⟩ (fun zH => ?_)
  clear hK K c3_B5_0 c3_B5_1 c3_B5_2 c3_B5_3 c3_B5_4 c3_B5_5 g3_B5_6 g3_B5_7 g3_B5_8 g3_B5_9 g3_B5_10 g3_B5_11 hrow
  refine wpAnyH_done (by kernel_rfl) ?_ _
  clear zH
  go_wp2_with fail
  refine code_letter (S := fun w' => Kept b w w' ∧ Fl b r1.2 w' ∧ Arr w.heap.size (row 43 g) w' ∧ Arr (w.heap.size + 1) (row 36 l) w' ∧ Arr (w.heap.size + 1 + 1) (row 36 c) w' ∧ Arr (w.heap.size + 1 + 1 + 1) (row 6 y) w' ∧ Arr (w.heap.size + 1 + 1 + 1 + 1) (row 43 (fun _ => 0)) w' ∧ Arr (w.heap.size + 1 + 1 + 1 + 1 + 1) (row 36 (updF (updF (updF (updF (updF (updF s0.1 (i * 6) (r1.1 0)) (i * 6 + 1) (r1.1 1)) (i * 6 + 2) (r1.1 2)) (i * 6 + 3) (r1.1 3)) (i * 6 + 4) (r1.1 4)) (i * 6 + 5) (r1.1 5))) w' ∧ Arr (w.heap.size + 1 + 1 + 1 + 1 + 1 + 1) (row 36 s0.2.1) w') ⟨((((((K1.new _ _ (by omega) _).new _ _ (by omega) _).new _ _ (by omega) _).new _ _ (by omega) _).new _ _ (by omega) _).new _ _ (by omega) _), ((((((f1.new (w.heap.size + 1 + 1 + 1 + 1 + 1) (i * 6) (zL y6_BF) (.int .i64 (r1.1 0))).new (w.heap.size + 1 + 1 + 1 + 1 + 1) (i * 6 + 1) (zL y6_BF) (.int .i64 (r1.1 1))).new (w.heap.size + 1 + 1 + 1 + 1 + 1) (i * 6 + 2) (zL y6_BF) (.int .i64 (r1.1 2))).new (w.heap.size + 1 + 1 + 1 + 1 + 1) (i * 6 + 3) (zL y6_BF) (.int .i64 (r1.1 3))).new (w.heap.size + 1 + 1 + 1 + 1 + 1) (i * 6 + 4) (zL y6_BF) (.int .i64 (r1.1 4))).new (w.heap.size + 1 + 1 + 1 + 1 + 1) (i * 6 + 5) (zL y6_BF) (.int .i64 (r1.1 5))), ((((((B0_1.new (w.heap.size + 1 + 1 + 1 + 1 + 1) (i * 6) (zL y6_B0) (.int .i64 (r1.1 0))).new (w.heap.size + 1 + 1 + 1 + 1 + 1) (i * 6 + 1) (zL y6_B0) (.int .i64 (r1.1 1))).new (w.heap.size + 1 + 1 + 1 + 1 + 1) (i * 6 + 2) (zL y6_B0) (.int .i64 (r1.1 2))).new (w.heap.size + 1 + 1 + 1 + 1 + 1) (i * 6 + 3) (zL y6_B0) (.int .i64 (r1.1 3))).new (w.heap.size + 1 + 1 + 1 + 1 + 1) (i * 6 + 4) (zL y6_B0) (.int .i64 (r1.1 4))).new (w.heap.size + 1 + 1 + 1 + 1 + 1) (i * 6 + 5) (zL y6_B0) (.int .i64 (r1.1 5))), ((((((B1_1.new (w.heap.size + 1 + 1 + 1 + 1 + 1) (i * 6) (zL y6_B1) (.int .i64 (r1.1 0))).new (w.heap.size + 1 + 1 + 1 + 1 + 1) (i * 6 + 1) (zL y6_B1) (.int .i64 (r1.1 1))).new (w.heap.size + 1 + 1 + 1 + 1 + 1) (i * 6 + 2) (zL y6_B1) (.int .i64 (r1.1 2))).new (w.heap.size + 1 + 1 + 1 + 1 + 1) (i * 6 + 3) (zL y6_B1) (.int .i64 (r1.1 3))).new (w.heap.size + 1 + 1 + 1 + 1 + 1) (i * 6 + 4) (zL y6_B1) (.int .i64 (r1.1 4))).new (w.heap.size + 1 + 1 + 1 + 1 + 1) (i * 6 + 5) (zL y6_B1) (.int .i64 (r1.1 5))), ((((((B2_1.new (w.heap.size + 1 + 1 + 1 + 1 + 1) (i * 6) (zL y6_B2) (.int .i64 (r1.1 0))).new (w.heap.size + 1 + 1 + 1 + 1 + 1) (i * 6 + 1) (zL y6_B2) (.int .i64 (r1.1 1))).new (w.heap.size + 1 + 1 + 1 + 1 + 1) (i * 6 + 2) (zL y6_B2) (.int .i64 (r1.1 2))).new (w.heap.size + 1 + 1 + 1 + 1 + 1) (i * 6 + 3) (zL y6_B2) (.int .i64 (r1.1 3))).new (w.heap.size + 1 + 1 + 1 + 1 + 1) (i * 6 + 4) (zL y6_B2) (.int .i64 (r1.1 4))).new (w.heap.size + 1 + 1 + 1 + 1 + 1) (i * 6 + 5) (zL y6_B2) (.int .i64 (r1.1 5))), ((((((B3_1.new (w.heap.size + 1 + 1 + 1 + 1 + 1) (i * 6) (zL y6_B3) (.int .i64 (r1.1 0))).new (w.heap.size + 1 + 1 + 1 + 1 + 1) (i * 6 + 1) (zL y6_B3) (.int .i64 (r1.1 1))).new (w.heap.size + 1 + 1 + 1 + 1 + 1) (i * 6 + 2) (zL y6_B3) (.int .i64 (r1.1 2))).new (w.heap.size + 1 + 1 + 1 + 1 + 1) (i * 6 + 3) (zL y6_B3) (.int .i64 (r1.1 3))).new (w.heap.size + 1 + 1 + 1 + 1 + 1) (i * 6 + 4) (zL y6_B3) (.int .i64 (r1.1 4))).new (w.heap.size + 1 + 1 + 1 + 1 + 1) (i * 6 + 5) (zL y6_B3) (.int .i64 (r1.1 5))), ((((((B4_1.new (w.heap.size + 1 + 1 + 1 + 1 + 1) (i * 6) (zL y6_B4) (.int .i64 (r1.1 0))).new (w.heap.size + 1 + 1 + 1 + 1 + 1) (i * 6 + 1) (zL y6_B4) (.int .i64 (r1.1 1))).new (w.heap.size + 1 + 1 + 1 + 1 + 1) (i * 6 + 2) (zL y6_B4) (.int .i64 (r1.1 2))).new (w.heap.size + 1 + 1 + 1 + 1 + 1) (i * 6 + 3) (zL y6_B4) (.int .i64 (r1.1 3))).new (w.heap.size + 1 + 1 + 1 + 1 + 1) (i * 6 + 4) (zL y6_B4) (.int .i64 (r1.1 4))).new (w.heap.size + 1 + 1 + 1 + 1 + 1) (i * 6 + 5) (zL y6_B4) (.int .i64 (r1.1 5))), (row_put (row_put (row_put (row_put (row_put (row_put B5_1 (i * 6) (by omega) (r1.1 0)) (i * 6 + 1) (by omega) (r1.1 1)) (i * 6 + 2) (by omega) (r1.1 2)) (i * 6 + 3) (by omega) (r1.1 3)) (i * 6 + 4) (by omega) (r1.1 4)) (i * 6 + 5) (by omega) (r1.1 5)), ((((((B6_1.new (w.heap.size + 1 + 1 + 1 + 1 + 1) (i * 6) (zG y7_B5) (.int .i64 (r1.1 0))).new (w.heap.size + 1 + 1 + 1 + 1 + 1) (i * 6 + 1) (zG y7_B5) (.int .i64 (r1.1 1))).new (w.heap.size + 1 + 1 + 1 + 1 + 1) (i * 6 + 2) (zG y7_B5) (.int .i64 (r1.1 2))).new (w.heap.size + 1 + 1 + 1 + 1 + 1) (i * 6 + 3) (zG y7_B5) (.int .i64 (r1.1 3))).new (w.heap.size + 1 + 1 + 1 + 1 + 1) (i * 6 + 4) (zG y7_B5) (.int .i64 (r1.1 4))).new (w.heap.size + 1 + 1 + 1 + 1 + 1) (i * 6 + 5) (zG y7_B5) (.int .i64 (r1.1 5)))⟩ ?_
  rintro w2 ⟨K2, BF_2, B0_2, B1_2, B2_2, B3_2, B4_2, B5_2, B6_2⟩
  have z2 := B6_2.lies
  clear K1 f1 B0_1 B1_1 B2_1 B3_1 B4_1 B5_1 B6_1
  refine wp_region_held_drew (S := fun w' => Arr w.heap.size (row 43 g) w' ∧ Arr (w.heap.size + 1 + 1) (row 36 c) w' ∧ Arr (w.heap.size + 1 + 1 + 1 + 1 + 1) (row 36 (updF (updF (updF (updF (updF (updF s0.1 (i * 6) (r1.1 0)) (i * 6 + 1) (r1.1 1)) (i * 6 + 2) (r1.1 2)) (i * 6 + 3) (r1.1 3)) (i * 6 + 4) (r1.1 4)) (i * 6 + 5) (r1.1 5))) w') (by kernel_rfl) ⟨B0_2.drew, B2_2.drew, B5_2.drew⟩ (fun zH => ?_)
  refine zT 0 rfl (by kernel_rfl) (fun _ _ _ => id) rfl (fun _ _ => by go_simp <;> with_reducible rfl) zH ?_
  simp only [Act.put, zA, zB, zC]
  refine zT 1 rfl (by kernel_rfl) (fun _ _ _ => id) rfl (fun _ _ => by go_simp <;> with_reducible rfl) zH ?_
  simp only [Act.put, zA, zB, zC]
  refine zT 2 rfl (by kernel_rfl) (fun _ _ _ => id) rfl (fun _ _ => by go_simp <;> with_reducible rfl) zH ?_
  simp only [Act.put, zA, zB, zC]
  refine zT 3 rfl (by kernel_rfl) (fun _ _ _ => id) rfl (fun _ _ => by go_simp <;> with_reducible rfl) zH ?_
  simp only [Act.put, zA, zB, zC]
  refine zT 4 rfl (by kernel_rfl) (fun _ _ _ => id) rfl (fun _ _ => by have hi0 : (i : Int) < 6 := (by omega); go_simp <;> with_reducible rfl) zH ?_
  simp only [Act.put, zA, zB, zC]
  refine take_at (i := 5) rfl (by kernel_rfl) (by kernel_rfl) (by kernel_rfl) (fun _ _ _ h => h) (part_yield (M := 6) (by rfl) rfl rfl (fun _ hS => hS.1) (by omega) (by kernel_rfl) (by rw [row_len]; kernel_rfl)) zH ?_
  simp only [Act.put, zA, zB, zC]
  refine zT 6 rfl (by kernel_rfl) (fun _ _ _ => id) rfl (fun _ _ => by go_simp <;> with_reducible rfl) zH ?_
  simp only [Act.put, zA, zB, zC]
  refine take_at (i := 7) rfl (by kernel_rfl) (by kernel_rfl) (by kernel_rfl) (fun _ _ _ h => h) (row_yield (by rfl) rfl rfl (fun _ hS => hS.2.1) (by kernel_rfl) (by rw [row_len]; kernel_rfl)) zH ?_
  simp only [Act.put, zA, zB, zC]
  refine zT 8 rfl (by kernel_rfl) (fun _ _ _ => id) rfl (fun _ _ => by go_simp <;> with_reducible rfl) zH ?_
  simp only [Act.put, zA, zB, zC]
  refine zT 9 rfl (by kernel_rfl) (fun _ _ _ => id) rfl (fun _ _ => by have hi0 : (i : Int) < 6 := (by omega); go_simp <;> with_reducible rfl) zH ?_
  simp only [Act.put, zA, zB, zC]
  refine take_at (i := 10) rfl (by kernel_rfl) (by kernel_rfl) (by kernel_rfl) (fun _ _ _ h => h) (part_yield (M := 6) (by rfl) rfl rfl (fun _ hS => hS.2.2) (by omega) (by kernel_rfl) (by rw [row_len]; kernel_rfl)) zH ?_
  simp only [Act.put, zA, zB, zC]
  refine zK 11 (by kernel_rfl) rfl (fun K hK => ?_)
  go_simp
  refine (hApply6_any b r1.2 c (fun x_ => (updF (updF (updF (updF (updF (updF s0.1 (i * 6) (r1.1 0)) (i * 6 + 1) (r1.1 1)) (i * 6 + 2) (r1.1 2)) (i * 6 + 3) (r1.1 3)) (i * 6 + 4) (r1.1 4)) (i * 6 + 5) (r1.1 5)) (i * 6 + x_)) _ BF_2.drew).mono ?_
  rintro e w3 ⟨rfl, f3, k3⟩
  generalize e3 : zApply6 r1.2 c (fun x_ => (updF (updF (updF (updF (updF (updF s0.1 (i * 6) (r1.1 0)) (i * 6 + 1) (r1.1 1)) (i * 6 + 2) (r1.1 2)) (i * 6 + 3) (r1.1 3)) (i * 6 + 4) (r1.1 4)) (i * 6 + 5) (r1.1 5)) (i * 6 + x_)) = r3 at f3 ⊢
  have E3 : Hid _ := e3
  clear e3
  have K3 : Kept b w w3 := Kept.trans K2.drew k3
  have B0_3 := B0_2.drew.kept k3 (zG y1_BF)
  have B1_3 := B1_2.drew.kept k3 (zG y2_BF)
  have B2_3 := B2_2.drew.kept k3 (zG y3_BF)
  have B3_3 := B3_2.drew.kept k3 (zG y4_BF)
  have B4_3 := B4_2.drew.kept k3 (zG y5_BF)
  have B5_3 := B5_2.drew.kept k3 (zG y6_BF)
  have B6_3 := B6_2.drew.kept k3 (zG y7_BF)
  have z3 := B6_3.lies
  clear zH
  refine hK.out _ _ ⟨B0_3, B2_3, B5_3⟩ (fun zH => ?_)
  clear hK K K2 BF_2 B0_2 B1_2 B2_2 B3_2 B4_2 B5_2 B6_2 k3
  refine zK 12 (by kernel_rfl) rfl (fun K hK => ?_)
  go_simp
  refine (hless_any b r3.2 (fun x_ => g (7 + i * 6 + x_)) r3.1 _ f3).mono ?_
  rintro e w4 ⟨rfl, f4, k4⟩
  generalize e4 : hlessS r3.2 (fun x_ => g (7 + i * 6 + x_)) r3.1 = r4 at f4 ⊢
  have E4 : Hid _ := e4
  clear e4
  have K4 := Kept.trans K3 k4
  have B0_4 := B0_3.kept k4 (zG y1_BF)
  have B1_4 := B1_3.kept k4 (zG y2_BF)
  have B2_4 := B2_3.kept k4 (zG y3_BF)
  have B3_4 := B3_3.kept k4 (zG y4_BF)
  have B4_4 := B4_3.kept k4 (zG y5_BF)
  have B5_4 := B5_3.kept k4 (zG y6_BF)
  have B6_4 := B6_3.kept k4 (zG y7_BF)
  have z4 := B6_4.lies
  clear zH
  refine hK.out _ _ ⟨B0_4, B2_4, B5_4⟩ (fun zH => ?_)
  clear hK K K3 f3 B0_3 B1_3 B2_3 B3_3 B4_3 B5_3 B6_3 k4
  refine zT 13 rfl (by kernel_rfl) (fun _ _ _ => id) rfl (fun _ _ => by have hi0 : (i : Int) < 6 := (by omega); go_simp <;> with_reducible rfl) zH ?_
  simp only [Act.put, zA, zB, zC]
  refine zK 14 (by kernel_rfl) rfl (fun K hK => ?_)
  have c5_B6_0 : w4.cell? ⟨w.heap.size + 1 + 1 + 1 + 1 + 1 + 1, i * 6 + 1, none⟩ = some (.int .i64 (s0.2.1 (i * 6 + 1))) := row_c B6_4 (i * 6 + 1) (by omega)
  have c5_B6_1 : w4.cell? ⟨w.heap.size + 1 + 1 + 1 + 1 + 1 + 1, i * 6 + 2, none⟩ = some (.int .i64 (s0.2.1 (i * 6 + 2))) := row_c B6_4 (i * 6 + 2) (by omega)
  have c5_B6_2 : w4.cell? ⟨w.heap.size + 1 + 1 + 1 + 1 + 1 + 1, i * 6 + 3, none⟩ = some (.int .i64 (s0.2.1 (i * 6 + 3))) := row_c B6_4 (i * 6 + 3) (by omega)
  have c5_B6_3 : w4.cell? ⟨w.heap.size + 1 + 1 + 1 + 1 + 1 + 1, i * 6 + 4, none⟩ = some (.int .i64 (s0.2.1 (i * 6 + 4))) := row_c B6_4 (i * 6 + 4) (by omega)
  have c5_B6_4 : w4.cell? ⟨w.heap.size + 1 + 1 + 1 + 1 + 1 + 1, i * 6 + 5, none⟩ = some (.int .i64 (s0.2.1 (i * 6 + 5))) := row_c B6_4 (i * 6 + 5) (by omega)
  have c5_B6_5 : w4.cell? ⟨w.heap.size + 1 + 1 + 1 + 1 + 1 + 1, i * 6, none⟩ = some (.int .i64 (s0.2.1 (i * 6))) := row_c B6_4 (i * 6) (by omega)
  have g5_B6_6 := row_f B6_4 (i * 6 + 1) (by omega)
  have g5_B6_7 := row_f B6_4 (i * 6 + 2) (by omega)
  have g5_B6_8 := row_f B6_4 (i * 6 + 3) (by omega)
  have g5_B6_9 := row_f B6_4 (i * 6 + 4) (by omega)
  have g5_B6_10 := row_f B6_4 (i * 6 + 5) (by omega)
  have g5_B6_11 := row_f B6_4 (i * 6) (by omega)
  have hrow : (row 6 r4.1).toArray = #[.int .i64 (r4.1 0), .int .i64 (r4.1 1), .int .i64 (r4.1 2), .int .i64 (r4.1 3), .int .i64 (r4.1 4), .int .i64 (r4.1 5)] := rfl
  go_simp
  clear zH
  refine hK.out _ _ ⟨((((((B0_4.new (w.heap.size + 1 + 1 + 1 + 1 + 1 + 1) (i * 6) (zL y7_B0) (.int .i64 (r4.1 0))).new (w.heap.size + 1 + 1 + 1 + 1 + 1 + 1) (i * 6 + 1) (zL y7_B0) (.int .i64 (r4.1 1))).new (w.heap.size + 1 + 1 + 1 + 1 + 1 + 1) (i * 6 + 2) (zL y7_B0) (.int .i64 (r4.1 2))).new (w.heap.size + 1 + 1 + 1 + 1 + 1 + 1) (i * 6 + 3) (zL y7_B0) (.int .i64 (r4.1 3))).new (w.heap.size + 1 + 1 + 1 + 1 + 1 + 1) (i * 6 + 4) (zL y7_B0) (.int .i64 (r4.1 4))).new (w.heap.size + 1 + 1 + 1 + 1 + 1 + 1) (i * 6 + 5) (zL y7_B0) (.int .i64 (r4.1 5))), ((((((B2_4.new (w.heap.size + 1 + 1 + 1 + 1 + 1 + 1) (i * 6) (zL y7_B2) (.int .i64 (r4.1 0))).new (w.heap.size + 1 + 1 + 1 + 1 + 1 + 1) (i * 6 + 1) (zL y7_B2) (.int .i64 (r4.1 1))).new (w.heap.size + 1 + 1 + 1 + 1 + 1 + 1) (i * 6 + 2) (zL y7_B2) (.int .i64 (r4.1 2))).new (w.heap.size + 1 + 1 + 1 + 1 + 1 + 1) (i * 6 + 3) (zL y7_B2) (.int .i64 (r4.1 3))).new (w.heap.size + 1 + 1 + 1 + 1 + 1 + 1) (i * 6 + 4) (zL y7_B2) (.int .i64 (r4.1 4))).new (w.heap.size + 1 + 1 + 1 + 1 + 1 + 1) (i * 6 + 5) (zL y7_B2) (.int .i64 (r4.1 5))), ((((((B5_4.new (w.heap.size + 1 + 1 + 1 + 1 + 1 + 1) (i * 6) (zL y7_B5) (.int .i64 (r4.1 0))).new (w.heap.size + 1 + 1 + 1 + 1 + 1 + 1) (i * 6 + 1) (zL y7_B5) (.int .i64 (r4.1 1))).new (w.heap.size + 1 + 1 + 1 + 1 + 1 + 1) (i * 6 + 2) (zL y7_B5) (.int .i64 (r4.1 2))).new (w.heap.size + 1 + 1 + 1 + 1 + 1 + 1) (i * 6 + 3) (zL y7_B5) (.int .i64 (r4.1 3))).new (w.heap.size + 1 + 1 + 1 + 1 + 1 + 1) (i * 6 + 4) (zL y7_B5) (.int .i64 (r4.1 4))).new (w.heap.size + 1 + 1 + 1 + 1 + 1 + 1) (i * 6 + 5) (zL y7_B5) (.int .i64 (r4.1 5)))⟩ (fun zH => ?_)
  clear hK K c5_B6_0 c5_B6_1 c5_B6_2 c5_B6_3 c5_B6_4 c5_B6_5 g5_B6_6 g5_B6_7 g5_B6_8 g5_B6_9 g5_B6_10 g5_B6_11 hrow
  refine wpAnyH_done (by kernel_rfl) ?_ _
  clear zH
  go_wp2_with fail
  have hs0 : Hid (hmetS_l0 g l c ((fun _ => 0), (fun _ => 0), bad) (i + 1) = ((updF (updF (updF (updF (updF (updF s0.1 (i * 6) (r1.1 0)) (i * 6 + 1) (r1.1 1)) (i * 6 + 2) (r1.1 2)) (i * 6 + 3) (r1.1 3)) (i * 6 + 4) (r1.1 4)) (i * 6 + 5) (r1.1 5)), (updF (updF (updF (updF (updF (updF s0.2.1 (i * 6) (r4.1 0)) (i * 6 + 1) (r4.1 1)) (i * 6 + 2) (r4.1 2)) (i * 6 + 3) (r4.1 3)) (i * 6 + 4) (r4.1 4)) (i * 6 + 5) (r4.1 5)), r4.2)) := by show _ = _; rw [hmetS_l0_succ]; unfold hmetS_l0s; simp only [El0.out, E1.out, E3.out, E4.out]
  refine give_act (fun a_ ea_ => ?_)
  rw [hJ0.out]
  intro G_ hG_
  exact hG_ ((updF (updF (updF (updF (updF (updF s0.1 (i * 6) (r1.1 0)) (i * 6 + 1) (r1.1 1)) (i * 6 + 2) (r1.1 2)) (i * 6 + 3) (r1.1 3)) (i * 6 + 4) (r1.1 4)) (i * 6 + 5) (r1.1 5)), (updF (updF (updF (updF (updF (updF s0.2.1 (i * 6) (r4.1 0)) (i * 6 + 1) (r4.1 1)) (i * 6 + 2) (r4.1 2)) (i * 6 + 3) (r4.1 3)) (i * 6 + 4) (r4.1 4)) (i * 6 + 5) (r4.1 5)), r4.2) (zS a_ 0) (zS a_ 20) (zS a_ 40) hs0 (by subst ea_; rfl) ((((((K4.new _ _ (by omega) _).new _ _ (by omega) _).new _ _ (by omega) _).new _ _ (by omega) _).new _ _ (by omega) _).new _ _ (by omega) _) ((((((f4.new (w.heap.size + 1 + 1 + 1 + 1 + 1 + 1) (i * 6) (zL y7_BF) (.int .i64 (r4.1 0))).new (w.heap.size + 1 + 1 + 1 + 1 + 1 + 1) (i * 6 + 1) (zL y7_BF) (.int .i64 (r4.1 1))).new (w.heap.size + 1 + 1 + 1 + 1 + 1 + 1) (i * 6 + 2) (zL y7_BF) (.int .i64 (r4.1 2))).new (w.heap.size + 1 + 1 + 1 + 1 + 1 + 1) (i * 6 + 3) (zL y7_BF) (.int .i64 (r4.1 3))).new (w.heap.size + 1 + 1 + 1 + 1 + 1 + 1) (i * 6 + 4) (zL y7_BF) (.int .i64 (r4.1 4))).new (w.heap.size + 1 + 1 + 1 + 1 + 1 + 1) (i * 6 + 5) (zL y7_BF) (.int .i64 (r4.1 5))) ((((((B0_4.new (w.heap.size + 1 + 1 + 1 + 1 + 1 + 1) (i * 6) (zL y7_B0) (.int .i64 (r4.1 0))).new (w.heap.size + 1 + 1 + 1 + 1 + 1 + 1) (i * 6 + 1) (zL y7_B0) (.int .i64 (r4.1 1))).new (w.heap.size + 1 + 1 + 1 + 1 + 1 + 1) (i * 6 + 2) (zL y7_B0) (.int .i64 (r4.1 2))).new (w.heap.size + 1 + 1 + 1 + 1 + 1 + 1) (i * 6 + 3) (zL y7_B0) (.int .i64 (r4.1 3))).new (w.heap.size + 1 + 1 + 1 + 1 + 1 + 1) (i * 6 + 4) (zL y7_B0) (.int .i64 (r4.1 4))).new (w.heap.size + 1 + 1 + 1 + 1 + 1 + 1) (i * 6 + 5) (zL y7_B0) (.int .i64 (r4.1 5))) ((((((B1_4.new (w.heap.size + 1 + 1 + 1 + 1 + 1 + 1) (i * 6) (zL y7_B1) (.int .i64 (r4.1 0))).new (w.heap.size + 1 + 1 + 1 + 1 + 1 + 1) (i * 6 + 1) (zL y7_B1) (.int .i64 (r4.1 1))).new (w.heap.size + 1 + 1 + 1 + 1 + 1 + 1) (i * 6 + 2) (zL y7_B1) (.int .i64 (r4.1 2))).new (w.heap.size + 1 + 1 + 1 + 1 + 1 + 1) (i * 6 + 3) (zL y7_B1) (.int .i64 (r4.1 3))).new (w.heap.size + 1 + 1 + 1 + 1 + 1 + 1) (i * 6 + 4) (zL y7_B1) (.int .i64 (r4.1 4))).new (w.heap.size + 1 + 1 + 1 + 1 + 1 + 1) (i * 6 + 5) (zL y7_B1) (.int .i64 (r4.1 5))) ((((((B2_4.new (w.heap.size + 1 + 1 + 1 + 1 + 1 + 1) (i * 6) (zL y7_B2) (.int .i64 (r4.1 0))).new (w.heap.size + 1 + 1 + 1 + 1 + 1 + 1) (i * 6 + 1) (zL y7_B2) (.int .i64 (r4.1 1))).new (w.heap.size + 1 + 1 + 1 + 1 + 1 + 1) (i * 6 + 2) (zL y7_B2) (.int .i64 (r4.1 2))).new (w.heap.size + 1 + 1 + 1 + 1 + 1 + 1) (i * 6 + 3) (zL y7_B2) (.int .i64 (r4.1 3))).new (w.heap.size + 1 + 1 + 1 + 1 + 1 + 1) (i * 6 + 4) (zL y7_B2) (.int .i64 (r4.1 4))).new (w.heap.size + 1 + 1 + 1 + 1 + 1 + 1) (i * 6 + 5) (zL y7_B2) (.int .i64 (r4.1 5))) ((((((B3_4.new (w.heap.size + 1 + 1 + 1 + 1 + 1 + 1) (i * 6) (zL y7_B3) (.int .i64 (r4.1 0))).new (w.heap.size + 1 + 1 + 1 + 1 + 1 + 1) (i * 6 + 1) (zL y7_B3) (.int .i64 (r4.1 1))).new (w.heap.size + 1 + 1 + 1 + 1 + 1 + 1) (i * 6 + 2) (zL y7_B3) (.int .i64 (r4.1 2))).new (w.heap.size + 1 + 1 + 1 + 1 + 1 + 1) (i * 6 + 3) (zL y7_B3) (.int .i64 (r4.1 3))).new (w.heap.size + 1 + 1 + 1 + 1 + 1 + 1) (i * 6 + 4) (zL y7_B3) (.int .i64 (r4.1 4))).new (w.heap.size + 1 + 1 + 1 + 1 + 1 + 1) (i * 6 + 5) (zL y7_B3) (.int .i64 (r4.1 5))) ((((((B4_4.new (w.heap.size + 1 + 1 + 1 + 1 + 1 + 1) (i * 6) (zL y7_B4) (.int .i64 (r4.1 0))).new (w.heap.size + 1 + 1 + 1 + 1 + 1 + 1) (i * 6 + 1) (zL y7_B4) (.int .i64 (r4.1 1))).new (w.heap.size + 1 + 1 + 1 + 1 + 1 + 1) (i * 6 + 2) (zL y7_B4) (.int .i64 (r4.1 2))).new (w.heap.size + 1 + 1 + 1 + 1 + 1 + 1) (i * 6 + 3) (zL y7_B4) (.int .i64 (r4.1 3))).new (w.heap.size + 1 + 1 + 1 + 1 + 1 + 1) (i * 6 + 4) (zL y7_B4) (.int .i64 (r4.1 4))).new (w.heap.size + 1 + 1 + 1 + 1 + 1 + 1) (i * 6 + 5) (zL y7_B4) (.int .i64 (r4.1 5))) ((((((B5_4.new (w.heap.size + 1 + 1 + 1 + 1 + 1 + 1) (i * 6) (zL y7_B5) (.int .i64 (r4.1 0))).new (w.heap.size + 1 + 1 + 1 + 1 + 1 + 1) (i * 6 + 1) (zL y7_B5) (.int .i64 (r4.1 1))).new (w.heap.size + 1 + 1 + 1 + 1 + 1 + 1) (i * 6 + 2) (zL y7_B5) (.int .i64 (r4.1 2))).new (w.heap.size + 1 + 1 + 1 + 1 + 1 + 1) (i * 6 + 3) (zL y7_B5) (.int .i64 (r4.1 3))).new (w.heap.size + 1 + 1 + 1 + 1 + 1 + 1) (i * 6 + 4) (zL y7_B5) (.int .i64 (r4.1 4))).new (w.heap.size + 1 + 1 + 1 + 1 + 1 + 1) (i * 6 + 5) (zL y7_B5) (.int .i64 (r4.1 5))) (row_put (row_put (row_put (row_put (row_put (row_put B6_4 (i * 6) (by omega) (r4.1 0)) (i * 6 + 1) (by omega) (r4.1 1)) (i * 6 + 2) (by omega) (r4.1 2)) (i * 6 + 3) (by omega) (r4.1 3)) (i * 6 + 4) (by omega) (r4.1 4)) (i * 6 + 5) (by omega) (r4.1 5))
 ·intro a Wl0 hI R
  rw [hJ0.out] at hI
  refine hI _ ?_
  clear hI hJ0
  intro r5 A0 C0 D0 E5 ea Kl0 BF_l0 B0_l0 B1_l0 B2_l0 B3_l0 B4_l0 B5_l0 B6_l0
  subst ea
  have zl0_BF := BF_l0.lies
  have zl0_B0 := B0_l0.lies
  have zl0_B1 := B1_l0.lies
  have zl0_B2 := B2_l0.lies
  have zl0_B3 := B3_l0.lies
  have zl0_B4 := B4_l0.lies
  have zl0_B5 := B5_l0.lies
  have zl0_B6 := B6_l0.lies
  go_wp2_with (first | (refine row_load (ty := 36) rfl rfl rfl B5_l0 (by kernel_rfl) (by rw [row_len]; kernel_rfl) ?_) | (refine row_load (ty := 34) rfl rfl rfl B3_l0 (by kernel_rfl) (by rw [row_len]; kernel_rfl) ?_))
  refine (hApply6_any b r5.2.2 r5.1 y _ BF_l0).mono ?_
  rintro e w6 ⟨rfl, f6, k6⟩
  generalize e6 : zApply6 r5.2.2 r5.1 y = r6 at f6 ⊢
  have E6 : Hid _ := e6
  clear e6
  try dsimp only
  have K6 : Kept b w w6 := Kept.trans Kl0 k6
  have B0_6 := B0_l0.kept k6 (zG y1_BF)
  have B3_6 := B3_l0.kept k6 (zG y4_BF)
  have B4_6 := B4_l0.kept k6 (zG y5_BF)
  have B5_6 := B5_l0.kept k6 (zG y6_BF)
  have B6_6 := B6_l0.kept k6 (zG y7_BF)
  have z6 := B6_6.lies
  clear BF_l0 B0_l0 B3_l0 B4_l0 B5_l0 B6_l0 k6
  have y8_BF := f6.lies
  have y8_B0 := B0_6.lies
  have y8_B3 := B3_6.lies
  have y8_B4 := B4_6.lies
  have y8_B5 := B5_6.lies
  have y8_B6 := B6_6.lies
  go_wp2_with (refine store_stop rfl (by kernel_rfl) ?_)
  refine Stop.mk (store_row (l' := row 6 r6.1) rfl rfl rfl rfl (Arr_at _ _ [.int .i64 0, .int .i64 0, .int .i64 0, .int .i64 0, .int .i64 0, .int .i64 0] _ (by simp)) (by rw [row_len]; rfl) (by rw [row_len]; kernel_rfl) (row_one _ _) ?_)
  intro w7 B7_7 o7
  have K7 : Kept b w w7 := Kept.off (K6.al _) o7 (by omega)
  have BF_7 := (f6.alloc _).off o7 (zL y8_BF)
  have B0_7 := (B0_6.alloc _).off o7 (zL y8_B0)
  have B3_7 := (B3_6.alloc _).off o7 (zL y8_B3)
  have B4_7 := (B4_6.alloc _).off o7 (zL y8_B4)
  have B5_7 := (B5_6.alloc _).off o7 (zL y8_B5)
  have B6_7 := (B6_6.alloc _).off o7 (zL y8_B6)
  have z7_B7 := B7_7.lies
  have z7_BF := BF_7.lies
  have z7_B0 := B0_7.lies
  have z7_B3 := B3_7.lies
  have z7_B4 := B4_7.lies
  have z7_B5 := B5_7.lies
  have z7_B6 := B6_7.lies
  clear K6 f6 B0_6 B3_6 B4_6 B5_6 B6_6 o7
  go_wp2_with fail
  refine wp_region_held_drew (S := fun w' => Arr w.heap.size (row 43 g) w' ∧ Arr w6.heap.size (row 6 r6.1) w' ∧ Arr (w.heap.size + 1 + 1 + 1 + 1 + 1 + 1) (row 36 r5.2.1) w') (by kernel_rfl) ⟨B0_7.drew, B7_7.drew, B6_7.drew⟩ (fun zH => ?_)
  refine zT 0 rfl (by kernel_rfl) (fun _ _ _ => id) rfl (fun _ _ => by go_simp <;> with_reducible rfl) zH ?_
  simp only [Act.put, zA, zB, zC]
  refine zT 1 rfl (by kernel_rfl) (fun _ _ _ => id) rfl (fun _ _ => by go_simp <;> with_reducible rfl) zH ?_
  simp only [Act.put, zA, zB, zC]
  refine zT 2 rfl (by kernel_rfl) (fun _ _ _ => id) rfl (fun wx hS => by have hc0 : wx.cell? ⟨w.heap.size, 0, none⟩ = some (.int .i64 (g 0)) := row_c hS.1 0 (by omega); have hc1 : wx.cell? ⟨w.heap.size, 1, none⟩ = some (.int .i64 (g 1)) := row_c hS.1 1 (by omega); have hc2 : wx.cell? ⟨w.heap.size, 2, none⟩ = some (.int .i64 (g 2)) := row_c hS.1 2 (by omega); have hc3 : wx.cell? ⟨w.heap.size, 3, none⟩ = some (.int .i64 (g 3)) := row_c hS.1 3 (by omega); go_simp <;> with_reducible rfl) zH ?_
  simp only [Act.put, zA, zB, zC]
  refine take_at (i := 3) rfl (by kernel_rfl) (by kernel_rfl) (by kernel_rfl) (fun _ _ _ h => h) (row_yield (by rfl) rfl rfl (fun _ hS => hS.2.1) (by kernel_rfl) (by rw [row_len]; kernel_rfl)) zH ?_
  simp only [Act.put, zA, zB, zC]
  refine zT 5 rfl (by kernel_rfl) (fun _ _ _ => id) rfl (fun _ _ => by go_simp <;> with_reducible rfl) zH ?_
  simp only [Act.put, zA, zB, zC]
  refine zT 6 rfl (by kernel_rfl) (fun _ _ _ => id) rfl (fun _ _ => by go_simp <;> with_reducible rfl) zH ?_
  simp only [Act.put, zA, zB, zC]
  refine zT 7 rfl (by kernel_rfl) (fun _ _ _ => id) rfl (fun wx hS => by have hc0 : wx.cell? ⟨w.heap.size, 4, none⟩ = some (.int .i64 (g 4)) := row_c hS.1 4 (by omega); have hc1 : wx.cell? ⟨w.heap.size, 5, none⟩ = some (.int .i64 (g 5)) := row_c hS.1 5 (by omega); have hc2 : wx.cell? ⟨w.heap.size, 6, none⟩ = some (.int .i64 (g 6)) := row_c hS.1 6 (by omega); go_simp <;> with_reducible rfl) zH ?_
  simp only [Act.put, zA, zB, zC]
  refine take_at (i := 8) rfl (by kernel_rfl) (by kernel_rfl) (by kernel_rfl) (fun _ _ _ h => h) (row_yield (by rfl) rfl rfl (fun _ hS => hS.2.1) (by kernel_rfl) (by rw [row_len]; kernel_rfl)) zH ?_
  simp only [Act.put, zA, zB, zC]
  refine zT 10 rfl (by kernel_rfl) (fun _ _ _ => id) rfl (fun _ _ => by go_simp <;> with_reducible rfl) zH ?_
  simp only [Act.put, zA, zB, zC]
  refine take_at (i := 11) rfl (by kernel_rfl) (by kernel_rfl) (by kernel_rfl) (fun _ _ _ h => h) (row_yield (by rfl) rfl rfl (fun _ hS => hS.2.2) (by kernel_rfl) (by rw [row_len]; kernel_rfl)) zH ?_
  simp only [Act.put, zA, zB, zC]
  refine zK 4 (by kernel_rfl) rfl (fun K hK => ?_)
  go_simp
  refine (hturned_any b r6.2 ((g 0), (g 1), (g 2), (g 3)) r6.1 _ BF_7.drew).mono ?_
  rintro e w8 ⟨rfl, f8, k8⟩
  generalize e8 : hturnedS r6.2 ((g 0), (g 1), (g 2), (g 3)) r6.1 = r8 at f8 ⊢
  have E8 : Hid _ := e8
  clear e8
  have K8 : Kept b w w8 := Kept.trans K7.drew k8
  have B0_8 := B0_7.drew.kept k8 (zG y1_BF)
  have B4_8 := B4_7.drew.kept k8 (zG y5_BF)
  have B6_8 := B6_7.drew.kept k8 (zG y7_BF)
  have B7_8 := B7_7.drew.kept k8 (zG y8_BF)
  have z8 := B7_8.lies
  clear zH
  refine hK.out _ _ ⟨B0_8, B7_8, B6_8⟩ (fun zH => ?_)
  clear hK K K7 BF_7 B0_7 B4_7 B6_7 B7_7 k8
  refine zK 9 (by kernel_rfl) rfl (fun K hK => ?_)
  go_simp
  refine (hbiased_any b r8.2 ((g 4), (g 5), (g 6)) r6.1 _ f8).mono ?_
  rintro e w9 ⟨rfl, f9, k9⟩
  generalize e9 : hbiasedS r8.2 ((g 4), (g 5), (g 6)) r6.1 = r9 at f9 ⊢
  have E9 : Hid _ := e9
  clear e9
  have K9 := Kept.trans K8 k9
  have B0_9 := B0_8.kept k9 (zG y1_BF)
  have B4_9 := B4_8.kept k9 (zG y5_BF)
  have B6_9 := B6_8.kept k9 (zG y7_BF)
  have B7_9 := B7_8.kept k9 (zG y8_BF)
  have z9 := B7_9.lies
  clear zH
  refine hK.out _ _ ⟨B0_9, B7_9, B6_9⟩ (fun zH => ?_)
  clear hK K K8 f8 B0_8 B4_8 B6_8 B7_8 k9
  refine zK 12 (by kernel_rfl) rfl (fun K hK => ?_)
  go_simp
  refine (hevened_any b r9.2 r5.2.1 _ f9).mono ?_
  rintro e w10 ⟨rfl, f10, k10⟩
  generalize e10 : hevenedS r9.2 r5.2.1 = r10 at f10 ⊢
  have E10 : Hid _ := e10
  clear e10
  have K10 := Kept.trans K9 k10
  have B0_10 := B0_9.kept k10 (zG y1_BF)
  have B4_10 := B4_9.kept k10 (zG y5_BF)
  have B6_10 := B6_9.kept k10 (zG y7_BF)
  have B7_10 := B7_9.kept k10 (zG y8_BF)
  have z10 := B7_10.lies
  clear zH
  refine hK.out _ _ ⟨B0_10, B7_10, B6_10⟩ (fun zH => ?_)
  clear hK K K9 f9 B0_9 B4_9 B6_9 B7_9 k10
  refine take_at (i := 13) (v := .agg (row 43 (guessF r8.1 r9.1 r10.1)).toArray) rfl (by kernel_rfl) (by kernel_rfl) (by kernel_rfl) (fun _ _ _ h => h) (Or.inl ⟨by rfl, ?y50⟩) zH ?t50
  case y50 => (intro wx hS; exact build_exec (vs := #[(0, .agg #[.int .i64 r8.1.1, .int .i64 r8.1.2.1, .int .i64 r8.1.2.2.1, .int .i64 r8.1.2.2.2]), (1, .agg #[.int .i64 r9.1.1, .int .i64 r9.1.2.1, .int .i64 r9.1.2.2]), (2, .agg (row 36 r10.1).toArray)]) rfl (by kernel_rfl) (buildG_run r8.1.1 r8.1.2.1 r8.1.2.2.1 r8.1.2.2.2 r9.1.1 r9.1.2.1 r9.1.2.2 r10.1 wx))
  simp only [Act.put, zA, zB, zC]
  refine zK 14 (by kernel_rfl) rfl (fun K hK => ?_)
  refine row_store_at (l' := row 43 (guessF r8.1 r9.1 r10.1)) (by rfl) rfl rfl rfl B4_10 (by simp only [row_len]) (by rw [row_len]; kernel_rfl) (row_one _ _) ?_
  intro w11 B4_11 o11
  have K11 : Kept b w w11 := Kept.off K10 o11 (by omega)
  have BF_11 := f10.off o11 (zL y5_BF)
  have B0_11 := B0_10.off o11 (zL y5_B0)
  have B6_11 := B6_10.off o11 (zG y7_B4)
  have B7_11 := B7_10.off o11 (zG y8_B4)
  have z11_B4 := B4_11.lies
  have z11_BF := BF_11.lies
  have z11_B0 := B0_11.lies
  have z11_B6 := B6_11.lies
  have z11_B7 := B7_11.lies
  simp only [Act.put]
  clear zH
  refine hK.out _ _ ⟨B0_11, B7_11, B6_11⟩ (fun zH => ?_)
  clear hK K K10 B4_10 f10 B0_10 B6_10 B7_10 o11
  refine wpAnyH_done (by kernel_rfl) ?_ _
  clear zH
  go_wp2_with (with_reducible refine post_stop ?_)
  refine Stop.mk ?_
  refine bodyPost_ret (v := .agg (row 43 (guessF r8.1 r9.1 r10.1)).toArray) (results_arr Try.results44 B4_11 rfl (by kernel_rfl) (by rw [row_len]; kernel_rfl)) rfl ?_
  have hs : hmetS bad g l c y = ((guessF r8.1 r9.1 r10.1), r10.2) := by unfold hmetS; simp only [E5.out, E6.out, E8.out, E9.out, E10.out]
  rw [hs]
  exact ⟨rfl, BF_11, K11⟩
end Go.Proofs.Ytooehgijllihdaa
