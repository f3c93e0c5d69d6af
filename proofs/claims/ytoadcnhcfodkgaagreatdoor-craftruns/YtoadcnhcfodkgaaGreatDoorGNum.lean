/-
  The walks of Number, where the model has one, for the seat YtoadcnhcfodkgaaGreatDoor. (Made by mkfield.py.)
-/
import Derived.Test.YtoadcnhcfodkgaaGreatDoorFStep
import Derived.Test.YtoadcnhcfodkgaaGreatDoorFTab
import Derived.Test.YtoadcnhcfodkgaaGreatDoorGLeaf
import Derived.Test.YtoadcnhcfodkgaaGreatDoorVPart
import Derived.Test.YtoadcnhcfodkgaaGreatDoorCCDays
import Derived.Test.YtoadcnhcfodkgaaGreatDoorStop
import Derived.Handy
import Derived.Deep.RegionHeld3
namespace Go.Proofs.YtoadcnhcfodkgaaGreatDoor
open Go.RowKit

set_option maxRecDepth 100000 in
set_option maxHeartbeats 4000000 in
theorem num_hi (b : Nat) (n m t g0 h0 : Int) (w : World) (hw : Fl b false w) (hG0 : Arr 0 (row 54 at0) w) (hG1 : Arr 1 (row 10 yr0) w) (hb : 1 < b) (n1 : 1 ≤ n) (n6 : n ≤ 6) (m0 : 0 ≤ m) (mn : m ≤ n) (ht : cRight t = true) (a2 q : Int) (i : Nat) (hx : n * (n + 1) = a2) (hx0 : 2 ≤ a2) (hx1 : a2 ≤ 42) (hq : Int.tdiv a2 2 = q) (hq0 : 1 ≤ q) (hq1 : q ≤ 21) (hr : q - 1 + m = (i : Int)) (hi : i < 27) (h5 : 5 ≤ i) (hg : partS false 1099511627776 (at0 (i * 2)) 10000 = (g0, false)) (hh : partS false 1099511627776 (at0 (i * 2 + 1)) 10000 = (h0, false)) :
    Calls Tryz.prog 266 #[.pointer (some ⟨b, 0, none⟩), .int .i64 n, .int .i64 m, .int .i64 t] w fun e w' => e = .returned (.tuple #[.int .i64 g0, .int .i64 h0]) ∧ Fl b false w' ∧ Kept b w w' := by
  have hl := hw.lies
  have l_0 := hG0.lies
  have l_1 := hG1.lies
  go_enter Tryz.func266, Tryz.ntmps266
  go_wp2_with fail
  refine (cRight_any t _).mono ?_
  rintro e w1 ⟨rfl, k1⟩
  rw [ht]
  try dsimp only
  have K1 : Kept b w w1 := Kept.trans (Kept.refl b w) (Kept.of_below k1)
  have BF_1 : Fl b false w1 := hw.below k1
  have G0_1 : Arr 0 (row 54 at0) w1 := hG0.below k1
  have G1_1 : Arr 1 (row 10 yr0) w1 := hG1.below k1
  have z1 := K1.size
  clear hG0 hG1 k1
  go_wp2_with fail
  refine wp_region_held_drew (S := fun w' => Arr 0 (row 54 at0) w') (by kernel_rfl) G0_1.drew (fun hHeld => ?_)
  refine take_at (i := 0) (v := ?v1) rfl (by kernel_rfl) (by kernel_rfl) (by kernel_rfl) (fun _ _ _ h => h) (Or.inl ⟨by rfl, ?y1⟩) hHeld ?t1
  case y1 => (intro wx hSw; go_simp <;> with_reducible rfl)
  simp only [Act.put, List.setIfInBounds_toArray, List.set_cons_zero, List.set_cons_succ]
  refine take_at (i := 1) (v := ?v2) rfl (by kernel_rfl) (by kernel_rfl) (by kernel_rfl) (fun _ _ _ h => h) (Or.inl ⟨by rfl, ?y2⟩) hHeld ?t2
  case y2 => (intro wx hSw; go_simp <;> with_reducible rfl)
  simp only [Act.put, List.setIfInBounds_toArray, List.set_cons_zero, List.set_cons_succ]
  refine take_at (i := 2) (v := ?v3) rfl (by kernel_rfl) (by kernel_rfl) (by kernel_rfl) (fun _ _ _ h => h) (Or.inl ⟨by rfl, ?y3⟩) hHeld ?t3
  case y3 => (intro wx hSw; have hi0 : (i : Int) < 27 := (by omega); go_simp <;> with_reducible rfl)
  simp only [Act.put, List.setIfInBounds_toArray, List.set_cons_zero, List.set_cons_succ]
  refine take_at (i := 3) (v := ?v4) rfl (by kernel_rfl) (by kernel_rfl) (by kernel_rfl) (fun _ _ _ h => h) (Or.inl ⟨by rfl, ?y4⟩) hHeld ?t4
  case y4 => (intro wx hSw; go_simp <;> with_reducible rfl)
  simp only [Act.put, List.setIfInBounds_toArray, List.set_cons_zero, List.set_cons_succ]
  refine take_at (i := 4) (v := ?v5) rfl (by kernel_rfl) (by kernel_rfl) (by kernel_rfl) (fun _ _ _ h => h) (Or.inl ⟨by rfl, ?y5⟩) hHeld ?t5
  case y5 => (intro wx hSw; have hc0 : wx.cell? ⟨0, i * 2, none⟩ = some (.int .i64 (at0 (i * 2))) := row_c hSw (i * 2) (by omega); go_simp <;> with_reducible rfl)
  simp only [Act.put, List.setIfInBounds_toArray, List.set_cons_zero, List.set_cons_succ]
  refine take_at (i := 6) (v := ?v6) rfl (by kernel_rfl) (by kernel_rfl) (by kernel_rfl) (fun _ _ _ h => h) (Or.inl ⟨by rfl, ?y6⟩) hHeld ?t6
  case y6 => (intro wx hSw; go_simp <;> with_reducible rfl)
  simp only [Act.put, List.setIfInBounds_toArray, List.set_cons_zero, List.set_cons_succ]
  refine take_at (i := 7) (v := ?v7) rfl (by kernel_rfl) (by kernel_rfl) (by kernel_rfl) (fun _ _ _ h => h) (Or.inl ⟨by rfl, ?y7⟩) hHeld ?t7
  case y7 => (intro wx hSw; go_simp <;> with_reducible rfl)
  simp only [Act.put, List.setIfInBounds_toArray, List.set_cons_zero, List.set_cons_succ]
  refine take_at (i := 8) (v := ?v8) rfl (by kernel_rfl) (by kernel_rfl) (by kernel_rfl) (fun _ _ _ h => h) (Or.inl ⟨by rfl, ?y8⟩) hHeld ?t8
  case y8 => (intro wx hSw; have hi0 : (i : Int) < 27 := (by omega); go_simp <;> with_reducible rfl)
  simp only [Act.put, List.setIfInBounds_toArray, List.set_cons_zero, List.set_cons_succ]
  refine take_at (i := 9) (v := ?v9) rfl (by kernel_rfl) (by kernel_rfl) (by kernel_rfl) (fun _ _ _ h => h) (Or.inl ⟨by rfl, ?y9⟩) hHeld ?t9
  case y9 => (intro wx hSw; go_simp <;> with_reducible rfl)
  simp only [Act.put, List.setIfInBounds_toArray, List.set_cons_zero, List.set_cons_succ]
  refine take_at (i := 10) (v := ?v10) rfl (by kernel_rfl) (by kernel_rfl) (by kernel_rfl) (fun _ _ _ h => h) (Or.inl ⟨by rfl, ?y10⟩) hHeld ?t10
  case y10 => (intro wx hSw; have hc0 : wx.cell? ⟨0, i * 2 + 1, none⟩ = some (.int .i64 (at0 (i * 2 + 1))) := row_c hSw (i * 2 + 1) (by omega); go_simp <;> with_reducible rfl)
  simp only [Act.put, List.setIfInBounds_toArray, List.set_cons_zero, List.set_cons_succ]
  refine call_at (i := 5) (by kernel_rfl) rfl (fun K hK => ?_)
  go_simp
  refine (microteslas_any b false (at0 (i * 2)) _ BF_1.drew).mono ?_
  rintro e w2 ⟨rfl, f2, k2⟩
  rw [hg] at f2 ⊢
  dsimp only at f2 ⊢
  have K2 : Kept b w w2 := Kept.trans K1.drew k2
  have G0_2 : Arr 0 (row 54 at0) w2 := G0_1.drew.kept k2 (by omega)
  have G1_2 : Arr 1 (row 10 yr0) w2 := G1_1.drew.kept k2 (by omega)
  have z2 := K2.size
  clear hHeld
  refine hK.out _ _ G0_2 (fun hHeld => ?_)
  clear hK K K1 BF_1 G0_1 G1_1 k2
  refine call_at (i := 11) (by kernel_rfl) rfl (fun K hK => ?_)
  go_simp
  refine (microteslas_any b false (at0 (i * 2 + 1)) _ f2).mono ?_
  rintro e w3 ⟨rfl, f3, k3⟩
  rw [hh] at f3 ⊢
  dsimp only at f3 ⊢
  have K3 : Kept b w w3 := Kept.trans K2 k3
  have G0_3 : Arr 0 (row 54 at0) w3 := G0_2.kept k3 (by omega)
  have G1_3 : Arr 1 (row 10 yr0) w3 := G1_2.kept k3 (by omega)
  have z3 := K3.size
  clear hHeld
  refine hK.out _ _ G0_3 (fun hHeld => ?_)
  clear hK K K2 f2 G0_2 G1_2 k3
  refine take_at (i := 12) (v := ?v11) rfl (by kernel_rfl) (by kernel_rfl) (by kernel_rfl) (fun _ _ _ h => h) (Or.inl ⟨by rfl, ?y11⟩) hHeld ?t11
  case y11 => (intro wx hSw; go_simp <;> with_reducible rfl)
  simp only [Act.put, List.setIfInBounds_toArray, List.set_cons_zero, List.set_cons_succ]
  refine take_at (i := 13) (v := ?v12) rfl (by kernel_rfl) (by kernel_rfl) (by kernel_rfl) (fun _ _ _ h => h) (Or.inl ⟨by rfl, ?y12⟩) hHeld ?t12
  case y12 => (intro wx hSw; go_simp <;> with_reducible rfl)
  simp only [Act.put, List.setIfInBounds_toArray, List.set_cons_zero, List.set_cons_succ]
  refine wpAnyH_done (by kernel_rfl) ?_ _
  clear hHeld
  go_wp2
  refine bodyPost_ret (v := .tuple #[.int .i64 g0, .int .i64 h0]) (by simp [results, Tryz.results266, go_sem]) rfl ?_
  exact ⟨rfl, f3, K3⟩
set_option maxRecDepth 100000 in
set_option maxHeartbeats 4000000 in
theorem num_lo (b : Nat) (n m t g0 h0 d y g1 h1 x1 x2 g2 h2 : Int) (w : World) (hw : Fl b false w) (hG0 : Arr 0 (row 54 at0) w) (hG1 : Arr 1 (row 10 yr0) w) (hb : 1 < b) (n1 : 1 ≤ n) (n6 : n ≤ 6) (m0 : 0 ≤ m) (mn : m ≤ n) (ht : cRight t = true) (a2 q : Int) (i : Nat) (hx : n * (n + 1) = a2) (hx0 : 2 ≤ a2) (hx1 : a2 ≤ 42) (hq : Int.tdiv a2 2 = q) (hq0 : 1 ≤ q) (hq1 : q ≤ 21) (hr : q - 1 + m = (i : Int)) (hi : i < 27) (h5 : i < 5) (hg : partS false 1099511627776 (at0 (i * 2)) 10000 = (g0, false)) (hh : partS false 1099511627776 (at0 (i * 2 + 1)) 10000 = (h0, false)) (hd : cDaysS false t = (d, false)) (hy : divS false d 401596622045184 = (y, false)) (hgy : partS false 1099511627776 (yr0 (i * 2)) 10000 = (g1, false)) (hhy : partS false 1099511627776 (yr0 (i * 2 + 1)) 10000 = (h1, false)) (hmg : mulS false y g1 = (x1, false)) (hmh : mulS false y h1 = (x2, false)) (hag : addS false g0 x1 = (g2, false)) (hah : addS false h0 x2 = (h2, false)) :
    Calls Tryz.prog 266 #[.pointer (some ⟨b, 0, none⟩), .int .i64 n, .int .i64 m, .int .i64 t] w fun e w' => e = .returned (.tuple #[.int .i64 g2, .int .i64 h2]) ∧ Fl b false w' ∧ Kept b w w' := by
  have hl := hw.lies
  have l_0 := hG0.lies
  have l_1 := hG1.lies
  go_enter Tryz.func266, Tryz.ntmps266
  go_wp2_with fail
  refine (cRight_any t _).mono ?_
  rintro e w1 ⟨rfl, k1⟩
  rw [ht]
  try dsimp only
  have K1 : Kept b w w1 := Kept.trans (Kept.refl b w) (Kept.of_below k1)
  have BF_1 : Fl b false w1 := hw.below k1
  have G0_1 : Arr 0 (row 54 at0) w1 := hG0.below k1
  have G1_1 : Arr 1 (row 10 yr0) w1 := hG1.below k1
  have z1 := K1.size
  clear hG0 hG1 k1
  go_wp2_with fail
  refine wp_region_held_drew (S := fun w' => Arr 0 (row 54 at0) w') (by kernel_rfl) G0_1.drew (fun hHeld => ?_)
  refine take_at (i := 0) (v := ?v1) rfl (by kernel_rfl) (by kernel_rfl) (by kernel_rfl) (fun _ _ _ h => h) (Or.inl ⟨by rfl, ?y1⟩) hHeld ?t1
  case y1 => (intro wx hSw; go_simp <;> with_reducible rfl)
  simp only [Act.put, List.setIfInBounds_toArray, List.set_cons_zero, List.set_cons_succ]
  refine take_at (i := 1) (v := ?v2) rfl (by kernel_rfl) (by kernel_rfl) (by kernel_rfl) (fun _ _ _ h => h) (Or.inl ⟨by rfl, ?y2⟩) hHeld ?t2
  case y2 => (intro wx hSw; go_simp <;> with_reducible rfl)
  simp only [Act.put, List.setIfInBounds_toArray, List.set_cons_zero, List.set_cons_succ]
  refine take_at (i := 2) (v := ?v3) rfl (by kernel_rfl) (by kernel_rfl) (by kernel_rfl) (fun _ _ _ h => h) (Or.inl ⟨by rfl, ?y3⟩) hHeld ?t3
  case y3 => (intro wx hSw; have hi0 : (i : Int) < 27 := (by omega); go_simp <;> with_reducible rfl)
  simp only [Act.put, List.setIfInBounds_toArray, List.set_cons_zero, List.set_cons_succ]
  refine take_at (i := 3) (v := ?v4) rfl (by kernel_rfl) (by kernel_rfl) (by kernel_rfl) (fun _ _ _ h => h) (Or.inl ⟨by rfl, ?y4⟩) hHeld ?t4
  case y4 => (intro wx hSw; go_simp <;> with_reducible rfl)
  simp only [Act.put, List.setIfInBounds_toArray, List.set_cons_zero, List.set_cons_succ]
  refine take_at (i := 4) (v := ?v5) rfl (by kernel_rfl) (by kernel_rfl) (by kernel_rfl) (fun _ _ _ h => h) (Or.inl ⟨by rfl, ?y5⟩) hHeld ?t5
  case y5 => (intro wx hSw; have hc0 : wx.cell? ⟨0, i * 2, none⟩ = some (.int .i64 (at0 (i * 2))) := row_c hSw (i * 2) (by omega); go_simp <;> with_reducible rfl)
  simp only [Act.put, List.setIfInBounds_toArray, List.set_cons_zero, List.set_cons_succ]
  refine take_at (i := 6) (v := ?v6) rfl (by kernel_rfl) (by kernel_rfl) (by kernel_rfl) (fun _ _ _ h => h) (Or.inl ⟨by rfl, ?y6⟩) hHeld ?t6
  case y6 => (intro wx hSw; go_simp <;> with_reducible rfl)
  simp only [Act.put, List.setIfInBounds_toArray, List.set_cons_zero, List.set_cons_succ]
  refine take_at (i := 7) (v := ?v7) rfl (by kernel_rfl) (by kernel_rfl) (by kernel_rfl) (fun _ _ _ h => h) (Or.inl ⟨by rfl, ?y7⟩) hHeld ?t7
  case y7 => (intro wx hSw; go_simp <;> with_reducible rfl)
  simp only [Act.put, List.setIfInBounds_toArray, List.set_cons_zero, List.set_cons_succ]
  refine take_at (i := 8) (v := ?v8) rfl (by kernel_rfl) (by kernel_rfl) (by kernel_rfl) (fun _ _ _ h => h) (Or.inl ⟨by rfl, ?y8⟩) hHeld ?t8
  case y8 => (intro wx hSw; have hi0 : (i : Int) < 27 := (by omega); go_simp <;> with_reducible rfl)
  simp only [Act.put, List.setIfInBounds_toArray, List.set_cons_zero, List.set_cons_succ]
  refine take_at (i := 9) (v := ?v9) rfl (by kernel_rfl) (by kernel_rfl) (by kernel_rfl) (fun _ _ _ h => h) (Or.inl ⟨by rfl, ?y9⟩) hHeld ?t9
  case y9 => (intro wx hSw; go_simp <;> with_reducible rfl)
  simp only [Act.put, List.setIfInBounds_toArray, List.set_cons_zero, List.set_cons_succ]
  refine take_at (i := 10) (v := ?v10) rfl (by kernel_rfl) (by kernel_rfl) (by kernel_rfl) (fun _ _ _ h => h) (Or.inl ⟨by rfl, ?y10⟩) hHeld ?t10
  case y10 => (intro wx hSw; have hc0 : wx.cell? ⟨0, i * 2 + 1, none⟩ = some (.int .i64 (at0 (i * 2 + 1))) := row_c hSw (i * 2 + 1) (by omega); go_simp <;> with_reducible rfl)
  simp only [Act.put, List.setIfInBounds_toArray, List.set_cons_zero, List.set_cons_succ]
  refine call_at (i := 5) (by kernel_rfl) rfl (fun K hK => ?_)
  go_simp
  refine (microteslas_any b false (at0 (i * 2)) _ BF_1.drew).mono ?_
  rintro e w2 ⟨rfl, f2, k2⟩
  rw [hg] at f2 ⊢
  dsimp only at f2 ⊢
  have K2 : Kept b w w2 := Kept.trans K1.drew k2
  have G0_2 : Arr 0 (row 54 at0) w2 := G0_1.drew.kept k2 (by omega)
  have G1_2 : Arr 1 (row 10 yr0) w2 := G1_1.drew.kept k2 (by omega)
  have z2 := K2.size
  clear hHeld
  refine hK.out _ _ G0_2 (fun hHeld => ?_)
  clear hK K K1 BF_1 G0_1 G1_1 k2
  refine call_at (i := 11) (by kernel_rfl) rfl (fun K hK => ?_)
  go_simp
  refine (microteslas_any b false (at0 (i * 2 + 1)) _ f2).mono ?_
  rintro e w3 ⟨rfl, f3, k3⟩
  rw [hh] at f3 ⊢
  dsimp only at f3 ⊢
  have K3 : Kept b w w3 := Kept.trans K2 k3
  have G0_3 : Arr 0 (row 54 at0) w3 := G0_2.kept k3 (by omega)
  have G1_3 : Arr 1 (row 10 yr0) w3 := G1_2.kept k3 (by omega)
  have z3 := K3.size
  clear hHeld
  refine hK.out _ _ G0_3 (fun hHeld => ?_)
  clear hK K K2 f2 G0_2 G1_2 k3
  refine take_at (i := 12) (v := ?v11) rfl (by kernel_rfl) (by kernel_rfl) (by kernel_rfl) (fun _ _ _ h => h) (Or.inl ⟨by rfl, ?y11⟩) hHeld ?t11
  case y11 => (intro wx hSw; go_simp <;> with_reducible rfl)
  simp only [Act.put, List.setIfInBounds_toArray, List.set_cons_zero, List.set_cons_succ]
  refine take_at (i := 13) (v := ?v12) rfl (by kernel_rfl) (by kernel_rfl) (by kernel_rfl) (fun _ _ _ h => h) (Or.inl ⟨by rfl, ?y12⟩) hHeld ?t12
  case y12 => (intro wx hSw; go_simp <;> with_reducible rfl)
  simp only [Act.put, List.setIfInBounds_toArray, List.set_cons_zero, List.set_cons_succ]
  refine wpAnyH_done (by kernel_rfl) ?_ _
  clear hHeld
  go_wp2_with fail
  refine (cDays_any b false t _ f3).mono ?_
  rintro e w4 ⟨rfl, f4, k4⟩
  rw [hd] at f4 ⊢
  dsimp only at f4 ⊢
  have K4 : Kept b w w4 := Kept.trans K3 k4
  have G0_4 : Arr 0 (row 54 at0) w4 := G0_3.kept k4 (by omega)
  have G1_4 : Arr 1 (row 10 yr0) w4 := G1_3.kept k4 (by omega)
  have z4 := K4.size
  clear K3 f3 G0_3 G1_3 k4
  go_wp2_with fail
  refine (Div_any b false d 401596622045184 _ f4).mono ?_
  rintro e w5 ⟨rfl, f5, k5⟩
  rw [hy] at f5 ⊢
  dsimp only at f5 ⊢
  have K5 : Kept b w w5 := Kept.trans K4 k5
  have G0_5 : Arr 0 (row 54 at0) w5 := G0_4.kept k5 (by omega)
  have G1_5 : Arr 1 (row 10 yr0) w5 := G1_4.kept k5 (by omega)
  have z5 := K5.size
  clear K4 f4 G0_4 G1_4 k5
  have c5_G1_0 : w5.cell? ⟨1, i * 2, none⟩ = some (.int .i64 (yr0 (i * 2))) := row_c G1_5 (i * 2) (by omega)
  have i5_1 : (i : Int) < 5 := by omega
  go_wp2_with fail
  refine (microteslas_any b false (yr0 (i * 2)) _ f5).mono ?_
  rintro e w6 ⟨rfl, f6, k6⟩
  rw [hgy] at f6 ⊢
  dsimp only at f6 ⊢
  have K6 : Kept b w w6 := Kept.trans K5 k6
  have G0_6 : Arr 0 (row 54 at0) w6 := G0_5.kept k6 (by omega)
  have G1_6 : Arr 1 (row 10 yr0) w6 := G1_5.kept k6 (by omega)
  have z6 := K6.size
  clear c5_G1_0 i5_1 K5 f5 G0_5 G1_5 k6
  go_wp2_with fail
  refine (Mul_any b false y g1 _ f6).mono ?_
  rintro e w7 ⟨rfl, f7, k7⟩
  rw [hmg] at f7 ⊢
  dsimp only at f7 ⊢
  have K7 : Kept b w w7 := Kept.trans K6 k7
  have G0_7 : Arr 0 (row 54 at0) w7 := G0_6.kept k7 (by omega)
  have G1_7 : Arr 1 (row 10 yr0) w7 := G1_6.kept k7 (by omega)
  have z7 := K7.size
  clear K6 f6 G0_6 G1_6 k7
  go_wp2_with fail
  refine (Add_any b false g0 x1 _ f7).mono ?_
  rintro e w8 ⟨rfl, f8, k8⟩
  rw [hag] at f8 ⊢
  dsimp only at f8 ⊢
  have K8 : Kept b w w8 := Kept.trans K7 k8
  have G0_8 : Arr 0 (row 54 at0) w8 := G0_7.kept k8 (by omega)
  have G1_8 : Arr 1 (row 10 yr0) w8 := G1_7.kept k8 (by omega)
  have z8 := K8.size
  clear K7 f7 G0_7 G1_7 k8
  have c8_G1_0 : w8.cell? ⟨1, i * 2 + 1, none⟩ = some (.int .i64 (yr0 (i * 2 + 1))) := row_c G1_8 (i * 2 + 1) (by omega)
  have i8_1 : (i : Int) < 5 := by omega
  go_wp2_with fail
  refine (microteslas_any b false (yr0 (i * 2 + 1)) _ f8).mono ?_
  rintro e w9 ⟨rfl, f9, k9⟩
  rw [hhy] at f9 ⊢
  dsimp only at f9 ⊢
  have K9 : Kept b w w9 := Kept.trans K8 k9
  have G0_9 : Arr 0 (row 54 at0) w9 := G0_8.kept k9 (by omega)
  have G1_9 : Arr 1 (row 10 yr0) w9 := G1_8.kept k9 (by omega)
  have z9 := K9.size
  clear c8_G1_0 i8_1 K8 f8 G0_8 G1_8 k9
  go_wp2_with fail
  refine (Mul_any b false y h1 _ f9).mono ?_
  rintro e w10 ⟨rfl, f10, k10⟩
  rw [hmh] at f10 ⊢
  dsimp only at f10 ⊢
  have K10 : Kept b w w10 := Kept.trans K9 k10
  have G0_10 : Arr 0 (row 54 at0) w10 := G0_9.kept k10 (by omega)
  have G1_10 : Arr 1 (row 10 yr0) w10 := G1_9.kept k10 (by omega)
  have z10 := K10.size
  clear K9 f9 G0_9 G1_9 k10
  go_wp2_with fail
  refine (Add_any b false h0 x2 _ f10).mono ?_
  rintro e w11 ⟨rfl, f11, k11⟩
  rw [hah] at f11 ⊢
  dsimp only at f11 ⊢
  have K11 : Kept b w w11 := Kept.trans K10 k11
  have G0_11 : Arr 0 (row 54 at0) w11 := G0_10.kept k11 (by omega)
  have G1_11 : Arr 1 (row 10 yr0) w11 := G1_10.kept k11 (by omega)
  have z11 := K11.size
  clear K10 f10 G0_10 G1_10 k11
  go_wp2
  refine bodyPost_ret (v := .tuple #[.int .i64 g2, .int .i64 h2]) (by simp [results, Tryz.results266, go_sem]) rfl ?_
  exact ⟨rfl, f11, K11⟩
end Go.Proofs.YtoadcnhcfodkgaaGreatDoor
