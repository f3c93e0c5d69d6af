/-
A part.
A part.
A part.
A part.
A part.
A part.
A part.
A part.
A part.
-/
import Derived.Handy
import Derived.Deep.RegionHeld3
import Derived.Test.YtbophanlmkbfeaaGreatDoorHC11
import Derived.Test.YtbophanlmkbfeaaGreatDoorHC05
import Derived.Test.YtbophanlmkbfeaaGreatDoorHC10
namespace Go.Proofs.YtbophanlmkbfeaaGreatDoor
open Go.RowKit
set_option maxRecDepth 100000
set_option maxHeartbeats 20000000
theorem hmiddle_any (b : Nat) (bad : Bool) (x : Nat → Int) (w : World) (hw : Fl b bad w) :
    Calls Tryz.prog 184 #[.pointer (some ⟨b, 0, none⟩), .agg (row 13 x).toArray] w fun e w' => e = .returned (.int .i64 ((hmiddleS bad x).1)) ∧ Fl b (hmiddleS bad x).2 w' ∧ Kept b w w' := by
 have hl := hw.lies
 go_enter Tryz.func184, Tryz.ntmps184
 have y1_BF := hw.lies
 have c1_B0_0 := row_c (Arr_at w w.heap.size (row 13 x) 238 rfl) 0 (by omega)
 go_wp2_with (refine row_load (ty := 238) rfl rfl rfl (Arr_at _ _ (row 13 x) _ (by simp)) (by kernel_rfl) (by rw [row_len]; kernel_rfl) ?_)
 clear c1_B0_0
 obtain ⟨J0, hJ0⟩ : ∃ J : Nat → Act → World → Prop, Hid (J = fun k a Wl0 => ∀ G_ : Prop, (∀ (s0 : Int × Bool) (A0 C0 : Nat → Value), Hid (hmiddleS_l0 x ((x 0), bad) k = s0) → a = { tmps := #[.pointer (some ⟨b, 0, none⟩), A0 1, A0 2, A0 3, A0 4, .int .i64 s0.1, A0 6, A0 7, A0 8, A0 9, .agg (row 13 x).toArray, .int .i64 (k : Int), A0 12, A0 13, A0 14, A0 15, A0 16, A0 17, A0 18, A0 19, C0 0, C0 1], defers := [] } → Kept b w Wl0 → Fl b s0.2 Wl0 → G_) → G_) := ⟨_, rfl⟩
 refine rounds_up J0 13 ?_ ?_ ?_
 ·refine give_act (fun a_ ea_ => ?_)
  rw [hJ0.out]
  intro G_ hG_
  exact hG_ ((x 0), bad) (zS a_ 0) (zS a_ 20) rfl (by subst ea_; rfl) ((Kept.refl b w).al _) (hw.alloc _)
 ·intro k a Wl0 hk hI R hR
  rw [hJ0.out] at hI
  refine hI _ ?_
  clear hI
  intro s0 A0 C0 El0 ea Kl0 BF_l0
  subst ea
  have zl0_BF := BF_l0.lies
  have i2_0 : (k : Int) < 13 := by omega
  go_wp2_with fail
  refine (Add_any b s0.2 s0.1 (x k) _ BF_l0).mono ?_
  rintro e w1 ⟨rfl, f1, k1⟩
  generalize e1 : addS s0.2 s0.1 (x k) = r1 at f1 ⊢
  have E1 : Hid _ := e1
  clear e1
  try dsimp only
  have K1 : Kept b w w1 := Kept.trans Kl0 k1
  have z1 := K1.size
  clear i2_0 BF_l0 k1
  go_wp2_with fail
  have hs0 : Hid (hmiddleS_l0 x ((x 0), bad) (k + 1) = (r1.1, r1.2)) := by show _ = _; rw [hmiddleS_l0_succ]; unfold hmiddleS_l0s; simp only [El0.out, E1.out]
  refine give_act (fun a_ ea_ => ?_)
  rw [hJ0.out]
  intro G_ hG_
  exact hG_ (r1.1, r1.2) (zS a_ 0) (zS a_ 20) hs0 (by subst ea_; rfl) K1 f1
 ·intro a Wl0 hI R
  rw [hJ0.out] at hI
  refine hI _ ?_
  clear hI hJ0
  intro r2 A0 C0 E2 ea Kl0 BF_l0
  subst ea
  have zl0_BF := BF_l0.lies
  go_wp2_with fail
  refine (Part_any b r2.2 r2.1 1 14 _ BF_l0).mono ?_
  rintro e w3 ⟨rfl, f3, k3⟩
  generalize e3 : partS r2.2 r2.1 1 14 = r3 at f3 ⊢
  have E3 : Hid _ := e3
  clear e3
  try dsimp only
  have K3 : Kept b w w3 := Kept.trans Kl0 k3
  have z3 := K3.size
  clear BF_l0 k3
  go_wp2
  go_ret
  have hs : hmiddleS bad x = (r3.1, r3.2) := by unfold hmiddleS; simp only [E2.out, E3.out]
  rw [hs]
  exact ⟨rfl, f3, K3⟩
end Go.Proofs.YtbophanlmkbfeaaGreatDoor
namespace Go.Proofs.YtbophanlmkbfeaaGreatDoor
open Go.RowKit
set_option maxRecDepth 100000
set_option maxHeartbeats 20000000
theorem hproducts_any (b : Nat) (bad : Bool) (x : Nat → Int) (y : Nat → Int) (w : World) (hw : Fl b bad w) :
    Calls Tryz.prog 115 #[.pointer (some ⟨b, 0, none⟩), .agg (row 78 x).toArray, .agg (row 78 y).toArray] w fun e w' => e = .returned (.agg (row 36 ((hproductsS bad x y).1)).toArray) ∧ Fl b (hproductsS bad x y).2 w' ∧ Kept b w w' := by
 have hl := hw.lies
 go_enter Tryz.func115, Tryz.ntmps115
 have y1_BF := hw.lies
 have y2_BF : b < w.heap.size + 1 := (Nat.lt_succ_of_lt hw.lies)
 have y2_B0 : w.heap.size < w.heap.size + 1 := by omega
 have y3_BF : b < w.heap.size + 1 + 1 := (Nat.lt_succ_of_lt (Nat.lt_succ_of_lt hw.lies))
 have y3_B0 : w.heap.size < w.heap.size + 1 + 1 := by omega
 have y3_B1 : w.heap.size + 1 < w.heap.size + 1 + 1 := by omega
 have y4_BF : b < w.heap.size + 1 + 1 + 1 := (Nat.lt_succ_of_lt (Nat.lt_succ_of_lt (Nat.lt_succ_of_lt hw.lies)))
 have y4_B0 : w.heap.size < w.heap.size + 1 + 1 + 1 := by omega
 have y4_B1 : w.heap.size + 1 < w.heap.size + 1 + 1 + 1 := by omega
 have y4_B2 : w.heap.size + 1 + 1 < w.heap.size + 1 + 1 + 1 := by omega
 go_wp2_with fail
 obtain ⟨J0, hJ0⟩ : ∃ J : Nat → Act → World → Prop, Hid (J = fun i a Wl0 => ∀ G_ : Prop, (∀ (s0 : (Nat → Int) × Bool) (A0 C0 D0 : Nat → Value), Hid (hproductsS_l0 x y ((fun _ => 0), bad) i = s0) → a = { tmps := #[.pointer (some ⟨b, 0, none⟩), A0 1, A0 2, A0 3, .pointer (some ⟨w.heap.size, 0, none⟩), .pointer (some ⟨w.heap.size + 1, 0, none⟩), .pointer (some ⟨w.heap.size + 1 + 1, 0, none⟩), .pointer (some ⟨w.heap.size + 1 + 1 + 1, 0, none⟩), A0 8, A0 9, A0 10, A0 11, .int .i64 (i : Int), A0 13, A0 14, A0 15, A0 16, A0 17, A0 18, A0 19, C0 0, C0 1, C0 2, C0 3, C0 4, C0 5, C0 6, C0 7, C0 8, C0 9, C0 10, C0 11, C0 12, C0 13, C0 14, C0 15, C0 16, C0 17, C0 18, C0 19, D0 0, D0 1, D0 2, D0 3, D0 4, D0 5], defers := [] } → Kept b w Wl0 → Fl b s0.2 Wl0 → Arr w.heap.size (row 78 x) Wl0 → Arr (w.heap.size + 1) (row 78 y) Wl0 → Arr (w.heap.size + 1 + 1) (row 36 (fun _ => 0)) Wl0 → Arr (w.heap.size + 1 + 1 + 1) (row 36 s0.1) Wl0 → G_) → G_) := ⟨_, rfl⟩
 refine rounds_up J0 6 ?_ ?_ ?_
 ·refine give_act (fun a_ ea_ => ?_)
  rw [hJ0.out]
  intro G_ hG_
  exact hG_ ((fun _ => 0), bad) (zS a_ 0) (zS a_ 20) (zS a_ 40) rfl (by subst ea_; rfl) (((((Kept.refl b w).al _).al _).al _).al _) ((((hw.alloc _).alloc _).alloc _).alloc _) ((((Arr_at _ _ (row 78 x) _ (by simp)).alloc _).alloc _).alloc _) (((Arr_at _ _ (row 78 y) _ (by simp)).alloc _).alloc _) ((Arr_at _ _ (row 36 (fun _ => 0)) _ (by simp)).alloc _) (Arr_at _ _ (row 36 (fun _ => 0)) _ (by simp))
 ·intro i a Wl0 hi hI R hR
  rw [hJ0.out] at hI
  refine hI _ ?_
  clear hI
  intro s0 A0 C0 D0 El0 ea Kl0 BF_l0 B0_l0 B1_l0 B2_l0 B3_l0
  subst ea
  have zl0_BF := BF_l0.lies
  have zl0_B0 := B0_l0.lies
  have zl0_B1 := B1_l0.lies
  have zl0_B2 := B2_l0.lies
  have zl0_B3 := B3_l0.lies
  go_wp2_with fail
  obtain ⟨J1, hJ1⟩ : ∃ J : Nat → Act → World → Prop, Hid (J = fun j a Wl1 => ∀ G_ : Prop, (∀ (s1 : (Nat → Int) × Bool) (A1 C1 D1 : Nat → Value), Hid (hproductsS_l1 x y i (s0.1, s0.2) j = s1) → a = { tmps := #[.pointer (some ⟨b, 0, none⟩), A1 1, A1 2, A1 3, .pointer (some ⟨w.heap.size, 0, none⟩), .pointer (some ⟨w.heap.size + 1, 0, none⟩), .pointer (some ⟨w.heap.size + 1 + 1, 0, none⟩), .pointer (some ⟨w.heap.size + 1 + 1 + 1, 0, none⟩), .int .i64 (i : Int), A1 9, A1 10, A1 11, .int .i64 (i : Int), A1 13, A1 14, .int .i64 (j : Int), A1 16, A1 17, A1 18, A1 19, C1 0, C1 1, C1 2, C1 3, C1 4, C1 5, C1 6, C1 7, C1 8, C1 9, C1 10, C1 11, C1 12, C1 13, C1 14, C1 15, C1 16, C1 17, C1 18, C1 19, D1 0, D1 1, D1 2, D1 3, D1 4, D1 5], defers := [] } → Kept b w Wl1 → Fl b s1.2 Wl1 → Arr w.heap.size (row 78 x) Wl1 → Arr (w.heap.size + 1) (row 78 y) Wl1 → Arr (w.heap.size + 1 + 1) (row 36 (fun _ => 0)) Wl1 → Arr (w.heap.size + 1 + 1 + 1) (row 36 s1.1) Wl1 → G_) → G_) := ⟨_, rfl⟩
  refine rounds_up J1 6 ?_ ?_ ?_
  ·refine give_act (fun a_ ea_ => ?_)
   rw [hJ1.out]
   intro G_ hG_
   exact hG_ (s0.1, s0.2) (zS a_ 0) (zS a_ 20) (zS a_ 40) rfl (by subst ea_; rfl) Kl0 BF_l0 B0_l0 B1_l0 B2_l0 B3_l0
  ·intro j a Wl1 hj hI R hR
   rw [hJ1.out] at hI
   refine hI _ ?_
   clear hI
   intro s1 A1 C1 D1 El1 ea Kl1 BF_l1 B0_l1 B1_l1 B2_l1 B3_l1
   subst ea
   have zl1_BF := BF_l1.lies
   have zl1_B0 := B0_l1.lies
   have zl1_B1 := B1_l1.lies
   have zl1_B2 := B2_l1.lies
   have zl1_B3 := B3_l1.lies
   have y13_BF := BF_l1.lies
   have y13_B0 := B0_l1.lies
   have y13_B1 := B1_l1.lies
   have y13_B2 := B2_l1.lies
   have y13_B3 := B3_l1.lies
   go_wp2_with fail
   obtain ⟨J2, hJ2⟩ : ∃ J : Nat → Act → World → Prop, Hid (J = fun k a Wl2 => ∀ G_ : Prop, (∀ (s2 : (Nat → Int) × Bool) (A2 C2 D2 : Nat → Value), Hid (hproductsS_l2 x y i j ((fun _ => 0), s1.2) k = s2) → a = { tmps := #[.pointer (some ⟨b, 0, none⟩), A2 1, A2 2, A2 3, .pointer (some ⟨w.heap.size, 0, none⟩), .pointer (some ⟨w.heap.size + 1, 0, none⟩), .pointer (some ⟨w.heap.size + 1 + 1, 0, none⟩), .pointer (some ⟨w.heap.size + 1 + 1 + 1, 0, none⟩), .int .i64 (i : Int), .int .i64 (j : Int), .pointer (some ⟨Wl1.heap.size, 0, none⟩), A2 11, .int .i64 (i : Int), A2 13, A2 14, .int .i64 (j : Int), A2 16, A2 17, .int .i64 (k : Int), A2 19, C2 0, C2 1, C2 2, C2 3, C2 4, C2 5, C2 6, C2 7, C2 8, C2 9, C2 10, C2 11, C2 12, C2 13, C2 14, C2 15, C2 16, C2 17, C2 18, C2 19, D2 0, D2 1, D2 2, D2 3, D2 4, D2 5], defers := [] } → Kept b w Wl2 → Fl b s2.2 Wl2 → Arr w.heap.size (row 78 x) Wl2 → Arr (w.heap.size + 1) (row 78 y) Wl2 → Arr (w.heap.size + 1 + 1) (row 36 (fun _ => 0)) Wl2 → Arr (w.heap.size + 1 + 1 + 1) (row 36 s1.1) Wl2 → Arr Wl1.heap.size (row 13 s2.1) Wl2 → G_) → G_) := ⟨_, rfl⟩
   refine rounds_up J2 13 ?_ ?_ ?_
   ·refine give_act (fun a_ ea_ => ?_)
    rw [hJ2.out]
    intro G_ hG_
    exact hG_ ((fun _ => 0), s1.2) (zS a_ 0) (zS a_ 20) (zS a_ 40) rfl (by subst ea_; rfl) (Kl1.al _) (BF_l1.alloc _) (B0_l1.alloc _) (B1_l1.alloc _) (B2_l1.alloc _) (B3_l1.alloc _) (Arr_at _ _ (row 13 (fun _ => 0)) _ (by simp))
   ·intro k a Wl2 hk hI R hR
    rw [hJ2.out] at hI
    refine hI _ ?_
    clear hI
    intro s2 A2 C2 D2 El2 ea Kl2 BF_l2 B0_l2 B1_l2 B2_l2 B3_l2 B4_l2
    subst ea
    have zl2_BF := BF_l2.lies
    have zl2_B0 := B0_l2.lies
    have zl2_B1 := B1_l2.lies
    have zl2_B2 := B2_l2.lies
    have zl2_B3 := B3_l2.lies
    have zl2_B4 := B4_l2.lies
    go_wp2_with fail
    refine wp_region_held_drew (S := fun w' => Arr w.heap.size (row 78 x) w' ∧ Arr (w.heap.size + 1) (row 78 y) w') (by kernel_rfl) ⟨B0_l2.drew, B1_l2.drew⟩ (fun zH => ?_)
    refine zT 0 rfl (by kernel_rfl) (fun _ _ _ => id) rfl (fun _ _ => by go_simp <;> with_reducible rfl) zH ?_
    simp only [Act.put, zA, zB, zC]
    refine zT 1 rfl (by kernel_rfl) (fun _ _ _ => id) rfl (fun _ _ => by go_simp <;> with_reducible rfl) zH ?_
    simp only [Act.put, zA, zB, zC]
    refine zT 2 rfl (by kernel_rfl) (fun _ _ _ => id) rfl (fun _ _ => by go_simp <;> with_reducible rfl) zH ?_
    simp only [Act.put, zA, zB, zC]
    refine zT 3 rfl (by kernel_rfl) (fun _ _ _ => id) rfl (fun _ _ => by go_simp <;> with_reducible rfl) zH ?_
    simp only [Act.put, zA, zB, zC]
    refine zT 4 rfl (by kernel_rfl) (fun _ _ _ => id) rfl (fun _ _ => by have hi0 : (k : Int) < 13 := (by omega); go_simp <;> with_reducible rfl) zH ?_
    simp only [Act.put, zA, zB, zC]
    refine zT 5 rfl (by kernel_rfl) (fun _ _ _ => id) rfl (fun _ _ => by have hi0 : (i : Int) < 6 := (by omega); go_simp <;> with_reducible rfl) zH ?_
    simp only [Act.put, zA, zB, zC]
    refine zT 6 rfl (by kernel_rfl) (fun _ _ _ => id) rfl (fun wx hS => by have hc0 : wx.cell? ⟨w.heap.size, k * 6 + i, none⟩ = some (.int .i64 (x (k * 6 + i))) := row_c hS.1 (k * 6 + i) (by omega); go_simp <;> with_reducible rfl) zH ?_
    simp only [Act.put, zA, zB, zC]
    refine zT 7 rfl (by kernel_rfl) (fun _ _ _ => id) rfl (fun _ _ => by go_simp <;> with_reducible rfl) zH ?_
    simp only [Act.put, zA, zB, zC]
    refine zT 8 rfl (by kernel_rfl) (fun _ _ _ => id) rfl (fun _ _ => by go_simp <;> with_reducible rfl) zH ?_
    simp only [Act.put, zA, zB, zC]
    refine zT 9 rfl (by kernel_rfl) (fun _ _ _ => id) rfl (fun _ _ => by have hi0 : (k : Int) < 13 := (by omega); go_simp <;> with_reducible rfl) zH ?_
    simp only [Act.put, zA, zB, zC]
    refine zT 10 rfl (by kernel_rfl) (fun _ _ _ => id) rfl (fun _ _ => by have hi0 : (j : Int) < 6 := (by omega); go_simp <;> with_reducible rfl) zH ?_
    simp only [Act.put, zA, zB, zC]
    refine zT 11 rfl (by kernel_rfl) (fun _ _ _ => id) rfl (fun wx hS => by have hc0 : wx.cell? ⟨w.heap.size + 1, k * 6 + j, none⟩ = some (.int .i64 (y (k * 6 + j))) := row_c hS.2 (k * 6 + j) (by omega); go_simp <;> with_reducible rfl) zH ?_
    simp only [Act.put, zA, zB, zC]
    refine zK 12 (by kernel_rfl) rfl (fun K hK => ?_)
    go_simp
    refine (Mul_any b s2.2 (x (k * 6 + i)) (y (k * 6 + j)) _ BF_l2.drew).mono ?_
    rintro e w1 ⟨rfl, f1, k1⟩
    generalize e1 : mulS s2.2 (x (k * 6 + i)) (y (k * 6 + j)) = r1 at f1 ⊢
    have E1 : Hid _ := e1
    clear e1
    have K1 : Kept b w w1 := Kept.trans Kl2.drew k1
    have B0_1 := B0_l2.drew.kept k1 (zG y1_BF)
    have B1_1 := B1_l2.drew.kept k1 (zG y2_BF)
    have B2_1 := B2_l2.drew.kept k1 (zG y3_BF)
    have B3_1 := B3_l2.drew.kept k1 (zG y4_BF)
    have B4_1 := B4_l2.drew.kept k1 (zG y13_BF)
    have z1 := B4_1.lies
    clear zH
    refine hK.out _ _ ⟨B0_1, B1_1⟩ (fun zH => ?_)
    clear hK K BF_l2 B0_l2 B1_l2 B2_l2 B3_l2 B4_l2 k1
    refine zT 13 rfl (by kernel_rfl) (fun _ _ _ => id) rfl (fun _ _ => by have hi0 : (k : Int) < 13 := (by omega); go_simp <;> with_reducible rfl) zH ?_
    simp only [Act.put, zA, zB, zC]
    refine zK 14 (by kernel_rfl) rfl (fun K hK => ?_)
    have c5_B4_0 : w1.cell? ⟨Wl1.heap.size, k, none⟩ = some (.int .i64 (s2.1 k)) := row_c B4_1 k (by omega)
    have g5_B4_1 := row_f B4_1 k (by omega)
    go_simp
    clear zH
    refine hK.out _ _ ⟨(B0_1.new Wl1.heap.size k (zL y13_B0) (.int .i64 r1.1)), (B1_1.new Wl1.heap.size k (zL y13_B1) (.int .i64 r1.1))⟩ (fun zH => ?_)
    clear hK K c5_B4_0 g5_B4_1
    refine wpAnyH_done (by kernel_rfl) ?_ _
    clear zH
    go_wp2_with fail
    have hs2 : Hid (hproductsS_l2 x y i j ((fun _ => 0), s1.2) (k + 1) = ((updF s2.1 k r1.1), r1.2)) := by show _ = _; rw [hproductsS_l2_succ]; unfold hproductsS_l2s; simp only [El2.out, E1.out]
    refine give_act (fun a_ ea_ => ?_)
    rw [hJ2.out]
    intro G_ hG_
    exact hG_ ((updF s2.1 k r1.1), r1.2) (zS a_ 0) (zS a_ 20) (zS a_ 40) hs2 (by subst ea_; rfl) (K1.new _ _ (by omega) _) (f1.new Wl1.heap.size k (zL y13_BF) (.int .i64 r1.1)) (B0_1.new Wl1.heap.size k (zL y13_B0) (.int .i64 r1.1)) (B1_1.new Wl1.heap.size k (zL y13_B1) (.int .i64 r1.1)) (B2_1.new Wl1.heap.size k (zL y13_B2) (.int .i64 r1.1)) (B3_1.new Wl1.heap.size k (zL y13_B3) (.int .i64 r1.1)) (row_put B4_1 k (by omega) r1.1)
   ·intro a Wl2 hI R
    rw [hJ2.out] at hI
    refine hI _ ?_
    clear hI hJ2
    intro r2 A2 C2 D2 E2 ea Kl2 BF_l2 B0_l2 B1_l2 B2_l2 B3_l2 B4_l2
    subst ea
    have zl2_BF := BF_l2.lies
    have zl2_B0 := B0_l2.lies
    have zl2_B1 := B1_l2.lies
    have zl2_B2 := B2_l2.lies
    have zl2_B3 := B3_l2.lies
    have zl2_B4 := B4_l2.lies
    go_wp2_with fail
    refine wp_region_held_drew (S := fun w' => Arr Wl1.heap.size (row 13 r2.1) w') (by kernel_rfl) B4_l2.drew (fun zH => ?_)
    refine zT 0 rfl (by kernel_rfl) (fun _ _ _ => id) rfl (fun _ _ => by go_simp <;> with_reducible rfl) zH ?_
    simp only [Act.put, zA, zB, zC]
    refine zT 1 rfl (by kernel_rfl) (fun _ _ _ => id) rfl (fun _ _ => by go_simp <;> with_reducible rfl) zH ?_
    simp only [Act.put, zA, zB, zC]
    refine zT 2 rfl (by kernel_rfl) (fun _ _ _ => id) rfl (fun _ _ => by go_simp <;> with_reducible rfl) zH ?_
    simp only [Act.put, zA, zB, zC]
    refine take_at (i := 3) rfl (by kernel_rfl) (by kernel_rfl) (by kernel_rfl) (fun _ _ _ h => h) (row_yield (by rfl) rfl rfl (fun _ hS => hS) (by kernel_rfl) (by rw [row_len]; kernel_rfl)) zH ?_
    simp only [Act.put, zA, zB, zC]
    refine zT 5 rfl (by kernel_rfl) (fun _ _ _ => id) rfl (fun _ _ => by have hi0 : (i : Int) < 6 := (by omega); go_simp <;> with_reducible rfl) zH ?_
    simp only [Act.put, zA, zB, zC]
    refine zK 4 (by kernel_rfl) rfl (fun K hK => ?_)
    go_simp
    refine (hmiddle_any b r2.2 r2.1 _ BF_l2.drew).mono ?_
    rintro e w3 ⟨rfl, f3, k3⟩
    generalize e3 : hmiddleS r2.2 r2.1 = r3 at f3 ⊢
    have E3 : Hid _ := e3
    clear e3
    have K3 : Kept b w w3 := Kept.trans Kl2.drew k3
    have B0_3 := B0_l2.drew.kept k3 (zG y1_BF)
    have B1_3 := B1_l2.drew.kept k3 (zG y2_BF)
    have B2_3 := B2_l2.drew.kept k3 (zG y3_BF)
    have B3_3 := B3_l2.drew.kept k3 (zG y4_BF)
    have B4_3 := B4_l2.drew.kept k3 (zG y13_BF)
    have z3 := B4_3.lies
    clear zH
    refine hK.out _ _ B4_3 (fun zH => ?_)
    clear hK K BF_l2 B0_l2 B1_l2 B2_l2 B3_l2 B4_l2 k3
    refine zT 6 rfl (by kernel_rfl) (fun _ _ _ => id) rfl (fun _ _ => by have hi0 : (j : Int) < 6 := (by omega); go_simp <;> with_reducible rfl) zH ?_
    simp only [Act.put, zA, zB, zC]
    refine zK 7 (by kernel_rfl) rfl (fun K hK => ?_)
    have c8_B3_0 : w3.cell? ⟨w.heap.size + 1 + 1 + 1, i * 6 + j, none⟩ = some (.int .i64 (s1.1 (i * 6 + j))) := row_c B3_3 (i * 6 + j) (by omega)
    have g8_B3_1 := row_f B3_3 (i * 6 + j) (by omega)
    go_simp
    clear zH
    refine hK.out _ _ (B4_3.new (w.heap.size + 1 + 1 + 1) (i * 6 + j) (zG y13_B3) (.int .i64 r3.1)) (fun zH => ?_)
    clear hK K c8_B3_0 g8_B3_1
    refine wpAnyH_done (by kernel_rfl) ?_ _
    clear zH
    go_wp2_with fail
    have hs1 : Hid (hproductsS_l1 x y i (s0.1, s0.2) (j + 1) = ((updF s1.1 (i * 6 + j) r3.1), r3.2)) := by show _ = _; rw [hproductsS_l1_succ]; unfold hproductsS_l1s; simp only [El1.out, E2.out, E3.out]
    refine give_act (fun a_ ea_ => ?_)
    rw [hJ1.out]
    intro G_ hG_
    exact hG_ ((updF s1.1 (i * 6 + j) r3.1), r3.2) (zS a_ 0) (zS a_ 20) (zS a_ 40) hs1 (by subst ea_; rfl) (K3.new _ _ (by omega) _) (f3.new (w.heap.size + 1 + 1 + 1) (i * 6 + j) (zL y4_BF) (.int .i64 r3.1)) (B0_3.new (w.heap.size + 1 + 1 + 1) (i * 6 + j) (zL y4_B0) (.int .i64 r3.1)) (B1_3.new (w.heap.size + 1 + 1 + 1) (i * 6 + j) (zL y4_B1) (.int .i64 r3.1)) (B2_3.new (w.heap.size + 1 + 1 + 1) (i * 6 + j) (zL y4_B2) (.int .i64 r3.1)) (row_put B3_3 (i * 6 + j) (by omega) r3.1)
  ·intro a Wl1 hI R
   rw [hJ1.out] at hI
   refine hI _ ?_
   clear hI hJ1
   intro r1 A1 C1 D1 E1 ea Kl1 BF_l1 B0_l1 B1_l1 B2_l1 B3_l1
   subst ea
   have zl1_BF := BF_l1.lies
   have zl1_B0 := B0_l1.lies
   have zl1_B1 := B1_l1.lies
   have zl1_B2 := B2_l1.lies
   have zl1_B3 := B3_l1.lies
   go_wp2_with fail
   have hs0 : Hid (hproductsS_l0 x y ((fun _ => 0), bad) (i + 1) = (r1.1, r1.2)) := by show _ = _; rw [hproductsS_l0_succ]; unfold hproductsS_l0s; simp only [El0.out, E1.out]
   refine give_act (fun a_ ea_ => ?_)
   rw [hJ0.out]
   intro G_ hG_
   exact hG_ (r1.1, r1.2) (zS a_ 0) (zS a_ 20) (zS a_ 40) hs0 (by subst ea_; rfl) Kl1 BF_l1 B0_l1 B1_l1 B2_l1 B3_l1
 ·intro a Wl0 hI R
  rw [hJ0.out] at hI
  refine hI _ ?_
  clear hI hJ0
  intro r1 A0 C0 D0 E1 ea Kl0 BF_l0 B0_l0 B1_l0 B2_l0 B3_l0
  subst ea
  have zl0_BF := BF_l0.lies
  have zl0_B0 := B0_l0.lies
  have zl0_B1 := B1_l0.lies
  have zl0_B2 := B2_l0.lies
  have zl0_B3 := B3_l0.lies
  go_wp2_with (first | (refine row_load (ty := 38) rfl rfl rfl B3_l0 (by kernel_rfl) (by rw [row_len]; kernel_rfl) ?_) | (refine store_stop rfl (by kernel_rfl) ?_))
  refine Stop.mk (store_row (l' := row 36 r1.1) rfl rfl rfl rfl B2_l0 (by simp only [row_len]) (by rw [row_len]; kernel_rfl) (row_one _ _) ?_)
  intro w2 B2_2 o2
  have K2 : Kept b w w2 := Kept.off Kl0 o2 (by omega)
  have BF_2 := BF_l0.off o2 (zL y3_BF)
  have B3_2 := B3_l0.off o2 (zG y4_B2)
  have z2_B2 := B2_2.lies
  have z2_BF := BF_2.lies
  have z2_B3 := B3_2.lies
  clear B2_l0 BF_l0 B3_l0 o2
  go_wp2_with (with_reducible refine post_stop ?_)
  refine Stop.mk ?_
  refine bodyPost_ret (v := .agg (row 36 r1.1).toArray) (results_arr Tryz.results115 B2_2 rfl (by kernel_rfl) (by rw [row_len]; kernel_rfl)) rfl ?_
  have hs : hproductsS bad x y = (r1.1, r1.2) := by unfold hproductsS; simp only [E1.out]
  rw [hs]
  exact ⟨rfl, BF_2, K2⟩
end Go.Proofs.YtbophanlmkbfeaaGreatDoor
namespace Go.Proofs.YtbophanlmkbfeaaGreatDoor
open Go.RowKit
def rowDec : List Value → Option (List Int)
 | [] => some []
 | .int .i64 x :: r => (match rowDec r with
  | some l => some (x :: l)
  | none => none)
 | _ => none
theorem rowDec_law : ∀ (vs : List Value) (l : List Int), rowDec vs = some l → vs = l.map fun x => .int .i64 x
 | [], l, h => by cases h; rfl
 | v :: r, l, h => by
  unfold rowDec at h
  split at h
  ·rename_i heq
   cases heq
  ·rename_i x r' heq
   cases heq
   split at h
   ·rename_i l' hl
    cases h
    rw [rowDec_law r l' hl]
    rfl
   ·cases h
  ·cases h
def cRow (N : Nat) : Dc (Nat → Int) where
 enc g := .agg (row N g).toArray
 dec v := match v with
  | .agg cs => (match rowDec cs.toList with
   | some l => (match Nat.beq l.length N with
    | true => some (fun i => l.getD i 0)
    | false => none)
   | none => none)
  | _ => none
 law v x h := by
  split at h
  ·rename_i cs
   split at h
   ·rename_i l hl
    split at h
    ·rename_i hb
     cases h
     have hN : l.length = N := Nat.eq_of_beq_eq_true hb
     have h1 := rowDec_law _ _ hl
     have h2 : cs.toList = row N (fun i => l.getD i 0) := by
      rw [h1]
      refine List.ext_getElem (by rw [row_len, List.length_map, hN]) (fun i h1 h2 => ?_)
      rw [row_get, List.getElem_map, List.getD_eq_getElem?_getD, List.getElem?_eq_getElem (by simpa using h1)]
      rfl
     rw [← h2]
    ·cases h
   ·cases h
  ·cases h
 np _ := rfl
end Go.Proofs.YtbophanlmkbfeaaGreatDoor
namespace Go.Proofs.YtbophanlmkbfeaaGreatDoor
open Go.RowKit
theorem row_g {τ : Nat → Int} (n : Nat) (g : Nat → Int) : All2 (G0 τ) (List.replicate n uI) (row n g) := by
 have key : ∀ (l : List Nat), All2 (G0 τ) (List.replicate l.length uI) (l.map fun i => .int .i64 (g i)) := by
  intro l
  induction l with
  | nil => trivial
  | cons a l ih => exact ⟨⟨g a, rfl⟩, ih⟩
 have := key (List.range n)
 rw [List.length_range] at this
 exact this
theorem row_of {τ : Nat → Int} (n : Nat) (v : Value) (h : G2 τ (rI n) v) : ∃ g, v = .agg (row n g).toArray := by
 obtain ⟨l, rfl, gl⟩ := h
 have hl := gl.len
 rw [List.length_replicate] at hl
 refine ⟨fun i => match l[i]? with
  | some (.int _ x) => x
  | _ => 0, ?_⟩
 have e : l = row n (fun i => match l[i]? with
  | some (.int _ x) => x
  | _ => 0) := by
  refine List.ext_getElem (by rw [row_len]; exact hl.symm) (fun i h1 h2 => ?_)
  rw [row_get]
  obtain ⟨b, hb, x, rfl⟩ := gl.get i uI (by rw [List.getElem?_replicate]; simp; omega)
  rw [hb]
  rw [List.getElem?_eq_getElem h1] at hb
  exact Option.some.inj hb
 exact congrArg (fun l => Value.agg ⟨l⟩) e
theorem hmid_l0_stays (x : Nat → Int) (z : Int × Bool) (h : z.2 = true) : ∀ n, (hmiddleS_l0 x z n).2 = true
 | 0 => h
 | n + 1 => by
  have ih := hmid_l0_stays x z h n
  show (hmiddleS_l0s x n (hmiddleS_l0 x z n)).2 = true
  unfold hmiddleS_l0s
  dsimp only
  rw [ih, addS_no (show tk true _ = false from rfl)]
theorem hmid_stays (x : Nat → Int) : (hmiddleS true x).2 = true := by
 unfold hmiddleS
 dsimp only
 rw [hmid_l0_stays x _ rfl, partS_no (show tk true _ = false from rfl)]
theorem hprod_l2_stays (x y : Nat → Int) (i j : Nat) (z : (Nat → Int) × Bool) (h : z.2 = true) : ∀ n, (hproductsS_l2 x y i j z n).2 = true
 | 0 => h
 | n + 1 => by
  rw [hproductsS_l2_succ]
  unfold hproductsS_l2s
  dsimp only
  rw [hprod_l2_stays x y i j z h n, mulS_no (show tk true _ = false from rfl)]
theorem hprod_l1_stays (x y : Nat → Int) (i : Nat) (z : (Nat → Int) × Bool) (h : z.2 = true) : ∀ n, (hproductsS_l1 x y i z n).2 = true
 | 0 => h
 | n + 1 => by
  rw [hproductsS_l1_succ]
  unfold hproductsS_l1s
  dsimp only
  rw [hprod_l2_stays x y i n (fun _ => 0, (hproductsS_l1 x y i z n).2) (hprod_l1_stays x y i z h n) 13, hmid_stays]
theorem hprod_l0_stays (x y : Nat → Int) (z : (Nat → Int) × Bool) (h : z.2 = true) : ∀ n, (hproductsS_l0 x y z n).2 = true
 | 0 => h
 | n + 1 => by
  rw [hproductsS_l0_succ]
  unfold hproductsS_l0s
  dsimp only
  rw [hprod_l1_stays x y n ((hproductsS_l0 x y z n).1, (hproductsS_l0 x y z n).2) (hprod_l0_stays x y z h n) 6]
theorem prods_d (rest : List Value) (h : All2 (G2 (fun _ => 0)) [rI 78, rI 78] rest) : ∃ x, (then' (cRow 78) (lone' (cRow 78))).enc x = rest := by
 match rest, h with
 | [a, b], ⟨ha, hb, _⟩ =>
  obtain ⟨x, ex⟩ := row_of 78 a ha
  obtain ⟨y, ey⟩ := row_of 78 b hb
  refine ⟨(x, y), ?_⟩
  rw [ex, ey]
  rfl
theorem prods_c (τ : Nat → Int) (y : Nat → Int) : G2 τ (rI 36) ((cRow 36).enc y) := ⟨row 36 y, rfl, row_g 36 y⟩
def hprodN (m : Nat) (bad : Bool) (x y : Nat → Int) : (Nat → Int) × Bool := let r1 := hproductsS_l0 x y ((fun _ => 0), bad) m; (r1.1, r1.2)
theorem hprodN_stays (m : Nat) (x y : Nat → Int) : (hprodN m true x y).2 = true := hprod_l0_stays x y (fun _ => 0, true) rfl m
theorem hprodN_is (x y : Nat → Int) : hproductsS true x y = hprodN 6 true x y := by
 unfold hproductsS hprodN
 rfl
theorem hprod_stays (x y : Nat → Int) : (hproductsS true x y).2 = true := by
 rw [hprodN_is]
 exact hprodN_stays 6 x y
def tfproducts : ACt Tryz.prog nq := rowF false (go_of Tryz.func115 (by kernel_rfl) (by kernel_rfl)) (op_of (f := 115) (sa := [rI 78, rI 78]) (sr := rI 36) (fb := unkB) (d := then' (cRow 78) (lone' (cRow 78))) (g := fun bad x => hproductsS bad x.1 x.2) (c := cRow 36) (fun b bad x w _ _ hw => hproducts_any b bad x.1 x.2 w hw) prods_d prods_c (fun x => hprod_stays x.1 x.2) (fun τ _ _ => fbg τ _)) (by decide +kernel)
end Go.Proofs.YtbophanlmkbfeaaGreatDoor
namespace Go.Proofs.YtbophanlmkbfeaaGreatDoor
open Go.RowKit
theorem fPoints_op : ∃ g, FOp Tryz.prog nq 109 [rI 43] (rI 78) unkB g := flow_ax (tbl := [taRoot, tSqrt, tMul]) (dirty := fun _ => []) (n := 8) nq_one xmixA Tryz.func109 rfl (by decide +kernel)
def tfPoints : ACt Tryz.prog nq := rowF false (go_of Tryz.func109 (by kernel_rfl) (by kernel_rfl)) fPoints_op (by decide +kernel)
end Go.Proofs.YtbophanlmkbfeaaGreatDoor
namespace Go.Proofs.YtbophanlmkbfeaaGreatDoor
open Go.RowKit
theorem gparted_op : ∃ g, FOp Tryz.prog nq 165 [uI] (.tuple ⟨[uI, uI]⟩) unkB g := flow_ax (tbl := [tMod]) (dirty := fun _ => []) (n := 8) nq_one xmixA Tryz.func165 rfl (by decide +kernel)
def tgparted : ACt Tryz.prog nq := rowF false (go_of Tryz.func165 (by kernel_rfl) (by kernel_rfl)) gparted_op (by decide +kernel)
theorem gsine_op : ∃ g, FOp Tryz.prog nq 167 [uI] (uI) unkB g := flow_ax (tbl := [tMul, tSub, tPart]) (dirty := fun _ => []) (n := 12) nq_one xmixA Tryz.func167 rfl (by decide +kernel)
def tgsine : ACt Tryz.prog nq := rowF false (go_of Tryz.func167 (by kernel_rfl) (by kernel_rfl)) gsine_op (by decide +kernel)
theorem gcosine_op : ∃ g, FOp Tryz.prog nq 166 [uI] (uI) unkB g := flow_ax (tbl := [tMul, tSub, tPart]) (dirty := fun _ => []) (n := 12) nq_one xmixA Tryz.func166 rfl (by decide +kernel)
def tgcosine : ACt Tryz.prog nq := rowF false (go_of Tryz.func166 (by kernel_rfl) (by kernel_rfl)) gcosine_op (by decide +kernel)
theorem gSin_op : ∃ g, FOp Tryz.prog nq 98 [uI] (uI) unkB g := flow_ax (tbl := [tgparted, tgsine, tgcosine]) (dirty := fun _ => []) (n := 8) nq_one xmixA Tryz.func98 rfl (by decide +kernel)
def tgSin : ACt Tryz.prog nq := rowF false (go_of Tryz.func98 (by kernel_rfl) (by kernel_rfl)) gSin_op (by decide +kernel)
theorem gCos_op : ∃ g, FOp Tryz.prog nq 97 [uI] (uI) unkB g := flow_ax (tbl := [tgparted, tgsine, tgcosine]) (dirty := fun _ => []) (n := 8) nq_one xmixA Tryz.func97 rfl (by decide +kernel)
def tgCos : ACt Tryz.prog nq := rowF false (go_of Tryz.func97 (by kernel_rfl) (by kernel_rfl)) gCos_op (by decide +kernel)
theorem kRight_op : ∃ g, POp Tryz.prog 22 [uI] (unkB) g := pure_ax (nq := nq) (tbl := []) (dirty := fun _ => []) (n := 8) xmixA Tryz.func22 rfl (by decide +kernel)
def tkRight : ACt Tryz.prog nq := rowP (go_of Tryz.func22 (by kernel_rfl) (by kernel_rfl)) kRight_op (by decide +kernel)
theorem kDays_op : ∃ g, FOp Tryz.prog nq 92 [uI] (uI) unkB g := flow_ax (tbl := [tkRight, tFail, tPart]) (dirty := fun _ => []) (n := 8) nq_one xmixA Tryz.func92 rfl (by decide +kernel)
def tkDays : ACt Tryz.prog nq := rowF false (go_of Tryz.func92 (by kernel_rfl) (by kernel_rfl)) kDays_op (by decide +kernel)
theorem kTurn_op : ∃ g, FOp Tryz.prog nq 101 [uI] (uI) unkB g := flow_ax (tbl := [tkRight, tFail, tPart, tMul, tkDays, tMod, tAdd]) (dirty := fun _ => []) (n := 8) nq_one xmixA Tryz.func101 rfl (by decide +kernel)
def tkTurn : ACt Tryz.prog nq := rowF false (go_of Tryz.func101 (by kernel_rfl) (by kernel_rfl)) kTurn_op (by decide +kernel)
theorem orightFar_op : ∃ g, POp Tryz.prog 154 [uI, uI] (unkB) g := pure_ax (nq := nq) (tbl := [tMul]) (dirty := fun _ => []) (n := 8) xmixA Tryz.func154 rfl (by decide +kernel)
def torightFar : ACt Tryz.prog nq := rowP (go_of Tryz.func154 (by kernel_rfl) (by kernel_rfl)) orightFar_op (by decide +kernel)
theorem orightAngle_op : ∃ g, POp Tryz.prog 155 [uI] (unkB) g := pure_ax (nq := nq) (tbl := []) (dirty := fun _ => []) (n := 8) xmixA Tryz.func155 rfl (by decide +kernel)
def torightAngle : ACt Tryz.prog nq := rowP (go_of Tryz.func155 (by kernel_rfl) (by kernel_rfl)) orightAngle_op (by decide +kernel)
theorem oRight_op : ∃ g, POp Tryz.prog 89 [rI 7] (unkB) g := pure_ax (nq := nq) (tbl := [torightFar, torightAngle, tkRight]) (dirty := fun _ => []) (n := 8) xmixA Tryz.func89 rfl (by decide +kernel)
def toRight : ACt Tryz.prog nq := rowP (go_of Tryz.func89 (by kernel_rfl) (by kernel_rfl)) oRight_op (by decide +kernel)
theorem oKepler_op : ∃ g, FOp Tryz.prog nq 95 [uI, uI] (uI) unkB g := flow_ax (tbl := [tFail, tSub, tMul, tDiv, tgSin, tgCos]) (dirty := fun _ => []) (n := 8) nq_one xmixA Tryz.func95 rfl (by decide +kernel)
def toKepler : ACt Tryz.prog nq := rowF false (go_of Tryz.func95 (by kernel_rfl) (by kernel_rfl)) oKepler_op (by decide +kernel)
theorem oshapeOf_op : ∃ g, FOp Tryz.prog nq 93 [rI 7] (rI 3) unkB g := flow_ax (tbl := [tSqrt, tSub, tMul, tgSin, tgCos]) (dirty := fun _ => []) (n := 8) nq_one xmixA Tryz.func93 rfl (by decide +kernel)
def toshapeOf : ACt Tryz.prog nq := rowF false (go_of Tryz.func93 (by kernel_rfl) (by kernel_rfl)) oshapeOf_op (by decide +kernel)
theorem odrifted_op : ∃ g, FOp Tryz.prog nq 94 [rI 7, rI 3, uI] (rI 3) unkB g := flow_ax (tbl := [tDiv, tSqrt, tMul, tSub, tPart, tAdd, tMod]) (dirty := fun _ => []) (n := 8) nq_one xmixA Tryz.func94 rfl (by decide +kernel)
def todrifted : ACt Tryz.prog nq := rowF false (go_of Tryz.func94 (by kernel_rfl) (by kernel_rfl)) odrifted_op (by decide +kernel)
theorem oturned_op : ∃ g, FOp Tryz.prog nq 99 [uI, uI, uI] (.tuple ⟨[uI, uI]⟩) unkB g := flow_ax (tbl := [tgSin, tgCos, tSub, tMul, tAdd]) (dirty := fun _ => []) (n := 8) nq_one xmixA Tryz.func99 rfl (by decide +kernel)
def toturned : ACt Tryz.prog nq := rowF false (go_of Tryz.func99 (by kernel_rfl) (by kernel_rfl)) oturned_op (by decide +kernel)
theorem oPlace_op : ∃ g, FOp Tryz.prog nq 49 [rI 7, uI] (rI 3) unkB g := flow_ax (tbl := [toRight, tkRight, tFail, tSub, tkDays, toshapeOf, todrifted, toKepler, tMul, tgCos, tgSin, toturned]) (dirty := fun _ => []) (n := 8) nq_one xmixA Tryz.func49 rfl (by decide +kernel)
theorem salong_op : ∃ g, FOp Tryz.prog nq 100 [uI] (uI) unkB g := flow_ax (tbl := [tAdd, tMul, tSub, tPart, tMod, tDiv, tgSin, tgCos]) (dirty := fun _ => []) (n := 8) nq_one xmixA Tryz.func100 rfl (by decide +kernel)
def tsalong : ACt Tryz.prog nq := rowF false (go_of Tryz.func100 (by kernel_rfl) (by kernel_rfl)) salong_op (by decide +kernel)
theorem sDirection_op : ∃ g, FOp Tryz.prog nq 50 [uI] (rI 3) unkB g := flow_ax (tbl := [tkRight, tFail, tkDays, tsalong, tgSin, tgCos, tMul, tAdd, tSub]) (dirty := fun _ => []) (n := 8) nq_one xmixA Tryz.func50 rfl (by decide +kernel)
theorem sShaded_op : ∃ g, FOp Tryz.prog nq 55 [rI 3, rI 3] (unkB) unkB g := flow_ax (tbl := [tvDot, tvNorm, tvScale, tvSub, tvAdd, tvUnit, tMul, tAdd, tSub]) (dirty := fun _ => []) (n := 8) nq_one xmixA Tryz.func55 rfl (by decide +kernel)
end Go.Proofs.YtbophanlmkbfeaaGreatDoor
namespace Go.Proofs.YtbophanlmkbfeaaGreatDoor
open Go.RowKit
theorem bgoesOn_op : ∃ g, POp Tryz.prog 86 [sDri, uI] (unkB) g := pure_ax (nq := nq) (tbl := []) (dirty := fun _ => []) (n := 8) xmixA Tryz.func86 rfl (by decide +kernel)
def tbgoesOn : ACt Tryz.prog nq := rowP (go_of Tryz.func86 (by kernel_rfl) (by kernel_rfl)) bgoesOn_op (by decide +kernel)
theorem bpart_op : ∃ g, FOp Tryz.prog nq 152 [rI 3, uI, uI] (rI 3) unkB g := flow_ax (tbl := [tPart]) (dirty := fun _ => []) (n := 8) nq_one xmixA Tryz.func152 rfl (by decide +kernel)
def tbpart : ACt Tryz.prog nq := rowF false (go_of Tryz.func152 (by kernel_rfl) (by kernel_rfl)) bpart_op (by decide +kernel)
theorem bleaned_op : ∃ g, FOp Tryz.prog nq 87 [sDri, rI 3, uI] (rI 3) unkB g := flow_ax (tbl := [tvSub, tbpart, tvAdd]) (dirty := fun _ => []) (n := 8) nq_one xmixA Tryz.func87 rfl (by decide +kernel)
def tbleaned : ACt Tryz.prog nq := rowF false (go_of Tryz.func87 (by kernel_rfl) (by kernel_rfl)) bleaned_op (by decide +kernel)
theorem bStep_op : ∃ g, FOp Tryz.prog nq 48 [sDri, rI 3, uI] (sDri) unkB g := flow_ax (tbl := [tbgoesOn, tbleaned, tvAdd]) (dirty := fun _ => []) (n := 8) nq_one xmixA Tryz.func48 rfl (by decide +kernel)
end Go.Proofs.YtbophanlmkbfeaaGreatDoor
namespace Go.Proofs.YtbophanlmkbfeaaGreatDoor
open Go.RowKit
theorem cI_of {τ : Nat → Int} (v : Value) (h : G2 τ uI v) : ∃ y, cI.enc y = v := by
 obtain ⟨x, rfl⟩ := h
 exact ⟨x, rfl⟩
theorem cB_of {τ : Nat → Int} (v : Value) (h : G2 τ unkB v) : ∃ y, cB.enc y = v := by
 obtain ⟨x, rfl⟩ := h
 exact ⟨x, rfl⟩
theorem cDri_g {τ : Nat → Int} (x : Dri) : G2 τ sDri (cDri.enc x) := ⟨cDri.enc x |>.cells.toList, rfl, ⟨x.1, rfl⟩, tEnc_g 7 x.2⟩
theorem cDri_of {τ : Nat → Int} (v : Value) (h : G2 τ sDri v) : ∃ y, cDri.enc y = v := by
 obtain ⟨l, rfl, gl⟩ := h
 match l, gl with
 | b :: r, ⟨⟨x, e⟩, gr⟩ =>
  obtain ⟨y, rfl⟩ := tEnc_of 7 r gr
  rw [e]
  exact ⟨(x, y), rfl⟩
theorem place_ex : ∃ g, FlowOk Tryz.prog 49 (then' (cT 7) (lone' cI)) g (cT 3) := (flowOk_of oPlace_op (then' (cT 7) (lone' cI)) (cT 3) (fun x => ⟨cT_g 7 x.1, ⟨x.2, rfl⟩, trivial⟩) (fun _ v h => cT_of 3 v h)).imp fun _ h => h.1
theorem dir_ex : ∃ g, FlowOk Tryz.prog 50 (lone' cI) g (cT 3) := (flowOk_of sDirection_op (lone' cI) (cT 3) (fun x => ⟨⟨x, rfl⟩, trivial⟩) (fun _ v h => cT_of 3 v h)).imp fun _ h => h.1
theorem norm_ex : ∃ g, FlowOk Tryz.prog 53 (lone' (cT 3)) g cI := (flowOk_of vNorm_op (lone' (cT 3)) cI (fun x => ⟨cT_g 3 x, trivial⟩) (fun _ v h => cI_of v h)).imp fun _ h => h.1
theorem apart_ex : ∃ g, FlowOk Tryz.prog 105 (then' (cT 3) (lone' (cT 3))) g cB := (flowOk_of dApart_op (then' (cT 3) (lone' (cT 3))) cB (fun x => ⟨cT_g 3 x.1, cT_g 3 x.2, trivial⟩) (fun _ v h => cB_of v h)).imp fun _ h => h.1
theorem shaded_ex : ∃ g, FlowOk Tryz.prog 55 (then' (cT 3) (lone' (cT 3))) g cB := (flowOk_of sShaded_op (then' (cT 3) (lone' (cT 3))) cB (fun x => ⟨cT_g 3 x.1, cT_g 3 x.2, trivial⟩) (fun _ v h => cB_of v h)).imp fun _ h => h.1
theorem bstep_ex : ∃ g, FlowOk Tryz.prog 48 (then' cDri (then' (cT 3) (lone' cI))) g cDri := (flowOk_of bStep_op (then' cDri (then' (cT 3) (lone' cI))) cDri (fun x => ⟨cDri_g x.1, cT_g 3 x.2.1, ⟨x.2.2, rfl⟩, trivial⟩) (fun _ v h => cDri_of v h)).imp fun _ h => h.1
end Go.Proofs.YtbophanlmkbfeaaGreatDoor
namespace Go.Proofs.YtbophanlmkbfeaaGreatDoor
open Go.RowKit
abbrev Ov := Nat → Option (Array Oper → Bool → (List Value → Xm → Prop) → List Value → Xm → Prop)
def swpO (P : Program) (tbl : List (Ct P)) (dirty : Nat → List Nat) (n : Nat) (ov : Ov) : Code → VQ → List Value → Xm → Prop
 | .skip, Q, vt, m => Q .normal vt m
 | .region id ops draw, Q, vt, m => (match ov id with
  | some R => R ops draw (Q .normal) vt m
  | none => vregion P tbl dirty id ops draw (Q .normal) vt m)
 | .seq x y, Q, vt, m => swpO P tbl dirty n ov x (fun e vt' m' => match e with
  | .normal => swpO P tbl dirty n ov y Q vt' m'
  | e => Q e vt' m') vt m
 | .cond c x y, Q, vt, m => (match okX c, VE vt c with
  | true, .bool b => vif b (swpO P tbl dirty n ov x Q (vset vt c true) m) (swpO P tbl dirty n ov y Q (vset vt c false) m)
  | _, _ => False)
 | .block id c, Q, vt, m => swpO P tbl dirty n ov c (fun e vt' m' => match e with
  | .exit id' => if id' = id then Q .normal vt' m' else Q (.exit id') vt' m'
  | e => Q e vt' m') vt m
 | .loop c, Q, vt, m => loopN n (swpO P tbl dirty n ov c) Q vt m
 | .exit id, Q, vt, m => Q (.exit id) vt m
 | .label _, Q, vt, m => Q .normal vt m
 | .ret, Q, vt, m => Q .ret vt m
 | _, _, _, _ => False
def OvOk (P : Program) (ov : Ov) (bs : List Nat) (w0 : World) (ds : List Deferred) (bl0 : Bl) : Code → Prop
 | .region id ops draw => ∀ R, ov id = some R → ∀ (K : List Value → Xm → Prop) (Q : Exit → Act → World → Prop) (bl : Bl) (vt : List Value) (m : Xm) (a : Act) (w : World), R ops draw K vt m → Rl bs w0 ds bl0 bl vt m a w → (∀ bl vt m a w, K vt m → Rl bs w0 ds bl0 bl vt m a w → Q .normal a w) → (Code.region id ops draw).wp P Q a w
 | .seq x y => OvOk P ov bs w0 ds bl0 x ∧ OvOk P ov bs w0 ds bl0 y
 | .cond _ x y => OvOk P ov bs w0 ds bl0 x ∧ OvOk P ov bs w0 ds bl0 y
 | .block _ c => OvOk P ov bs w0 ds bl0 c
 | .loop c => OvOk P ov bs w0 ds bl0 c
 | _ => True
section
variable {P : Program} {tbl : List (Ct P)} {bs : List Nat} {w0 : World} {ds : List Deferred} {dirty : Nat → List Nat} {n : Nat} {bl0 : Bl} {ov : Ov}
theorem swpO_sound (hm : P.follows .mixedOrders = true) : ∀ (c : Code) (Q : VQ) (Q' : Exit → Act → World → Prop) (bl : Bl) (vt : List Value) (m : Xm) (a : Act) (w : World), OvOk P ov bs w0 ds bl0 c → Stands bs w0 ds bl0 Q Q' → swpO P tbl dirty n ov c Q vt m → Rl bs w0 ds bl0 bl vt m a w → c.wp P Q' a w := by
 intro c
 induction c with
 | skip => intro Q Q' bl vt m a w _ hQ h r; exact wp_skip (hQ _ bl vt m a w h r)
 | region id ops draw =>
  intro Q Q' bl vt m a w ho hQ h r
  unfold swpO at h
  split at h
  ·rename_i R hR
   exact ho R hR _ Q' bl vt m a w h r (fun bl vt m a w hk hr => hQ _ bl vt m a w hk hr)
  ·exact vregion_sound hm (fun bl vt m a w hk hr => hQ _ bl vt m a w hk hr) h r
 | seq x y ihx ihy =>
  intro Q Q' bl vt m a w ho hQ h r
  refine wp_seq (ihx _ _ bl vt m a w ho.1 ?_ h r)
  intro e bl' vt' m' a' w' h' r'
  cases e with
  | normal => exact ihy Q Q' bl' vt' m' a' w' ho.2 hQ h' r'
  | exit id => exact hQ _ bl' vt' m' a' w' h' r'
  | goto l => exact hQ _ bl' vt' m' a' w' h' r'
  | ret => exact hQ _ bl' vt' m' a' w' h' r'
  | panic ch => exact hQ _ bl' vt' m' a' w' h' r'
  | outgrown => exact hQ _ bl' vt' m' a' w' h' r'
 | cond c x y ihx ihy =>
  intro Q Q' bl vt m a w ho hQ h r
  unfold swpO at h
  split at h
  ·rename_i b hok hb
   have hv := r.F.eval hok
   rw [hb] at hv
   have hv : a.eval c = .bool b := hv
   refine wp_cond_split hv (fun e => ?_) (fun e => ?_)
   ·subst e; exact ihx Q Q' bl _ m a w ho.1 hQ h ⟨r.F.vset hb, r.R, r.le, r.len, r.defers⟩
   ·subst e; exact ihy Q Q' bl _ m a w ho.2 hQ h ⟨r.F.vset hb, r.R, r.le, r.len, r.defers⟩
  ·exact h.elim
 | block id c ih =>
  intro Q Q' bl vt m a w ho hQ h r
  refine wp_block (ih _ _ bl vt m a w ho ?_ h r)
  intro e bl' vt' m' a' w' h' r'
  cases e with
  | exit id' =>
   dsimp only at h'
   unfold Exit.inBlock
   dsimp only
   split at h'
   ·rename_i e
    rw [if_pos e]
    exact hQ _ bl' vt' m' a' w' h' r'
   ·rename_i e
    rw [if_neg e]
    exact hQ _ bl' vt' m' a' w' h' r'
  | normal => exact hQ _ bl' vt' m' a' w' h' r'
  | goto l => exact hQ _ bl' vt' m' a' w' h' r'
  | ret => exact hQ _ bl' vt' m' a' w' h' r'
  | panic ch => exact hQ _ bl' vt' m' a' w' h' r'
  | outgrown => exact hQ _ bl' vt' m' a' w' h' r'
 | loop c ih =>
  intro Q Q' bl vt m a w ho hQ h r
  refine wp_loop_rounds n ?_
  have key : ∀ k bl vt m a w, loopN k (swpO P tbl dirty n ov c) Q vt m → Rl bs w0 ds bl0 bl vt m a w → Code.rounds P c Q' k a w := by
   intro k
   induction k with
   | zero => intro bl vt m a w h _; exact h
   | succ k ihk =>
    intro bl vt m a w h r
    refine ih _ _ bl vt m a w ho ?_ h r
    intro e bl' vt' m' a' w' h' r'
    cases e with
    | normal => exact ihk bl' vt' m' a' w' h' r'
    | exit id => exact hQ _ bl' vt' m' a' w' h' r'
    | goto l => exact hQ _ bl' vt' m' a' w' h' r'
    | ret => exact hQ _ bl' vt' m' a' w' h' r'
    | panic ch => exact hQ _ bl' vt' m' a' w' h' r'
    | outgrown => exact hQ _ bl' vt' m' a' w' h' r'
  exact key n bl vt m a w h r
 | exit id => intro Q Q' bl vt m a w _ hQ h r; exact wp_exit (hQ _ bl vt m a w h r)
 | label l => intro Q Q' bl vt m a w _ hQ h r; exact wp_label (hQ _ bl vt m a w h r)
 | ret => intro Q Q' bl vt m a w _ hQ h r; exact wp_ret (hQ _ bl vt m a w h r)
 | goto l => intro Q Q' bl vt m a w _ _ h _; exact h.elim
 | scope c _ => intro Q Q' bl vt m a w _ _ h _; exact h.elim
 | refuse s => intro Q Q' bl vt m a w _ _ h _; exact h.elim
 | rangeFunc f ps x y _ _ => intro Q Q' bl vt m a w _ _ h _; exact h.elim
end
section
variable {P : Program} {tbl : List (Ct P)} {dirty : Nat → List Nat} {n : Nat} {ov : Ov}
theorem calls_sxO (hm : P.follows .mixedOrders = true) {f : Nat} {fn : Func} {c : Code} (hf : P.funcs[f]? = some fn) (hb : fn.body = some c) {bs : List Nat} {w : World} {bl : Bl} {m : Xm} {vargs : List Value} {args : Array Value}
    (R : RW bs w bl m w) (hl : bl.length = m.length) (hs : args.size = vargs.length) (hv : ∀ i, RV bl (vargs.getD i undef) (args.getD i undef)) {Post : Value → Xm → Prop}
    (ho : OvOk P ov bs w [] bl c) (h : swpO P tbl dirty n ov c (retQ P fn Post) (vargs ++ List.replicate (fn.ntmps - vargs.length) undef) m) :
    Calls P f args w fun e w' => ∃ v bl' m', e = .returned v ∧ Post v m' ∧ RW bs w bl' m' w' ∧ Le bl bl' := by
 refine calls_of_wp hf hb (swpO_sound (ds := []) (bl0 := bl) hm c _ _ bl _ m _ w ho ?_ h ⟨⟨?_, ?_⟩, R, Le.refl _, hl, rfl⟩)
 ·intro e bl' vt' m' a' w' h' r'
  cases e with
  | normal =>
   simp only [retQ] at h'
   split at h'
   ·rename_i v hv
    exact ⟨r'.defers, v, resV_run r'.F r'.R hv, v, bl', m', rfl, h', r'.R, r'.le⟩
   ·exact h'.elim
  | ret =>
   simp only [retQ] at h'
   split at h'
   ·rename_i v hv
    exact ⟨r'.defers, v, resV_run r'.F r'.R hv, v, bl', m', rfl, h', r'.R, r'.le⟩
   ·exact h'.elim
  | exit id => exact h'.elim
  | goto l => exact h'.elim
  | panic ch => exact h'.elim
  | outgrown => exact h'.elim
 ·simp [hs]
 ·intro t
  by_cases ht : t < vargs.length
  ·have := hv t
   simp only [List.getD_eq_getElem?_getD, Array.getD_eq_getD_getElem?] at this ⊢
   rw [List.getElem?_append_left ht, Array.getElem?_append_left (by omega)]
   exact this
  ·simp only [List.getD_eq_getElem?_getD, Array.getD_eq_getD_getElem?]
   rw [List.getElem?_append_right (by omega), Array.getElem?_append_right (by omega), hs]
   by_cases h2 : t - vargs.length < fn.ntmps - vargs.length
   ·rw [List.getElem?_eq_getElem (by simpa using h2), Array.getElem?_eq_getElem (by simpa using h2)]
    simp
    rfl
   ·rw [List.getElem?_eq_none (by simpa using h2), Array.getElem?_eq_none (by simpa using h2)]
    rfl
end
end Go.Proofs.YtbophanlmkbfeaaGreatDoor
