/-
A part.
A part.
A part.
-/
import Derived.Handy
import Derived.Deep.RegionHeld3
import Derived.Test.YteeohbiaclojaaaGreatDoorHU24
import Derived.Test.YteeohbiaclojaaaGreatDoorHU02
import Derived.Test.YteeohbiaclojaaaGreatDoorHU25
import Derived.Test.YteeohbiaclojaaaGreatDoorHU11
import Derived.Test.YteeohbiaclojaaaGreatDoorHU17
import Derived.Test.YteeohbiaclojaaaGreatDoorHU10
namespace Go.Proofs.YteeohbiaclojaaaGreatDoor
open Go.RowKit
set_option maxRecDepth 100000
set_option maxHeartbeats 20000000
theorem num_hi (b : Nat) (n m t g0 h0 : Int) (w : World) (hw : Fl b false w) (hG0 : Arr 0 (row 54 at0) w) (hG1 : Arr 1 (row 10 yr0) w) (hb : 1 < b) (n1 : 1 ≤ n) (n6 : n ≤ 6) (m0 : 0 ≤ m) (mn : m ≤ n) (ht : cRight t = true) (a2 q : Int) (i : Nat) (hx : n * (n + 1) = a2) (hx0 : 2 ≤ a2) (hx1 : a2 ≤ 42) (hq : Int.tdiv a2 2 = q) (hq0 : 1 ≤ q) (hq1 : q ≤ 21) (hr : q - 1 + m = (i : Int)) (hi : i < 27) (h5 : 5 ≤ i) (hg : partS false 1099511627776 (at0 (i * 2)) 10000 = (g0, false)) (hh : partS false 1099511627776 (at0 (i * 2 + 1)) 10000 = (h0, false)) :
    Calls Tryz.prog 175 #[.pointer (some ⟨b, 0, none⟩), .int .i64 n, .int .i64 m, .int .i64 t] w fun e w' => e = .returned (.tuple #[.int .i64 g0, .int .i64 h0]) ∧ Fl b false w' ∧ Kept b w w' := by
 have hl := hw.lies
 have l_0 := hG0.lies
 have l_1 := hG1.lies
 go_enter Tryz.func175, Tryz.ntmps175
 go_wp2_with fail
 refine (cRight_any t _).mono ?_
 rintro e w1 ⟨rfl, k1⟩
 rw [ht]
 try dsimp only
 have K1 : Kept b w w1 := Kept.trans (Kept.refl b w) (Kept.of_below k1)
 have BF_1 := hw.below k1
 have G0_1 := hG0.below k1
 have G1_1 := hG1.below k1
 have z1 := K1.size
 clear hG0 hG1 k1
 go_wp2_with fail
 refine wp_region_held_drew (S := fun w' => Arr 0 (row 54 at0) w') (by kernel_rfl) G0_1.drew (fun zH => ?_)
 refine zT 0 rfl (by kernel_rfl) (fun _ _ _ => id) rfl (fun _ _ => by go_simp <;> with_reducible rfl) zH ?_
 simp only [Act.put, zA, zB, zC]
 refine zT 1 rfl (by kernel_rfl) (fun _ _ _ => id) rfl (fun _ _ => by go_simp <;> with_reducible rfl) zH ?_
 simp only [Act.put, zA, zB, zC]
 refine zT 2 rfl (by kernel_rfl) (fun _ _ _ => id) rfl (fun _ _ => by have hi0 : (i : Int) < 27 := (by omega); go_simp <;> with_reducible rfl) zH ?_
 simp only [Act.put, zA, zB, zC]
 refine zT 3 rfl (by kernel_rfl) (fun _ _ _ => id) rfl (fun _ _ => by go_simp <;> with_reducible rfl) zH ?_
 simp only [Act.put, zA, zB, zC]
 refine zT 4 rfl (by kernel_rfl) (fun _ _ _ => id) rfl (fun wx hS => by have hc0 : wx.cell? ⟨0, i * 2, none⟩ = some (.int .i64 (at0 (i * 2))) := row_c hS (i * 2) (by omega); go_simp <;> with_reducible rfl) zH ?_
 simp only [Act.put, zA, zB, zC]
 refine zT 6 rfl (by kernel_rfl) (fun _ _ _ => id) rfl (fun _ _ => by go_simp <;> with_reducible rfl) zH ?_
 simp only [Act.put, zA, zB, zC]
 refine zT 7 rfl (by kernel_rfl) (fun _ _ _ => id) rfl (fun _ _ => by go_simp <;> with_reducible rfl) zH ?_
 simp only [Act.put, zA, zB, zC]
 refine zT 8 rfl (by kernel_rfl) (fun _ _ _ => id) rfl (fun _ _ => by have hi0 : (i : Int) < 27 := (by omega); go_simp <;> with_reducible rfl) zH ?_
 simp only [Act.put, zA, zB, zC]
 refine zT 9 rfl (by kernel_rfl) (fun _ _ _ => id) rfl (fun _ _ => by go_simp <;> with_reducible rfl) zH ?_
 simp only [Act.put, zA, zB, zC]
 refine zT 10 rfl (by kernel_rfl) (fun _ _ _ => id) rfl (fun wx hS => by have hc0 : wx.cell? ⟨0, i * 2 + 1, none⟩ = some (.int .i64 (at0 (i * 2 + 1))) := row_c hS (i * 2 + 1) (by omega); go_simp <;> with_reducible rfl) zH ?_
 simp only [Act.put, zA, zB, zC]
 refine zK 5 (by kernel_rfl) rfl (fun K hK => ?_)
 go_simp
 refine (microteslas_any b false (at0 (i * 2)) _ BF_1.drew).mono ?_
 rintro e w2 ⟨rfl, f2, k2⟩
 rw [hg] at f2 ⊢
 dsimp only at f2 ⊢
 have K2 : Kept b w w2 := Kept.trans K1.drew k2
 have G0_2 := G0_1.drew.kept k2 (by omega)
 have G1_2 := G1_1.drew.kept k2 (by omega)
 have z2 := K2.size
 clear zH
 refine hK.out _ _ G0_2 (fun zH => ?_)
 clear hK K K1 BF_1 G0_1 G1_1 k2
 refine zK 11 (by kernel_rfl) rfl (fun K hK => ?_)
 go_simp
 refine (microteslas_any b false (at0 (i * 2 + 1)) _ f2).mono ?_
 rintro e w3 ⟨rfl, f3, k3⟩
 rw [hh] at f3 ⊢
 dsimp only at f3 ⊢
 have K3 := Kept.trans K2 k3
 have G0_3 := G0_2.kept k3 (by omega)
 have G1_3 := G1_2.kept k3 (by omega)
 have z3 := K3.size
 clear zH
 refine hK.out _ _ G0_3 (fun zH => ?_)
 clear hK K K2 f2 G0_2 G1_2 k3
 refine zT 12 rfl (by kernel_rfl) (fun _ _ _ => id) rfl (fun _ _ => by go_simp <;> with_reducible rfl) zH ?_
 simp only [Act.put, zA, zB, zC]
 refine zT 13 rfl (by kernel_rfl) (fun _ _ _ => id) rfl (fun _ _ => by go_simp <;> with_reducible rfl) zH ?_
 simp only [Act.put, zA, zB, zC]
 refine wpAnyH_done (by kernel_rfl) ?_ _
 clear zH
 go_wp2
 refine bodyPost_ret (v := .tuple #[.int .i64 g0, .int .i64 h0]) (by simp [results, Tryz.results175, go_sem]) rfl ?_
 exact ⟨rfl, f3, K3⟩
theorem num_lo (b : Nat) (n m t g0 h0 d y g1 h1 x1 x2 g2 h2 : Int) (w : World) (hw : Fl b false w) (hG0 : Arr 0 (row 54 at0) w) (hG1 : Arr 1 (row 10 yr0) w) (hb : 1 < b) (n1 : 1 ≤ n) (n6 : n ≤ 6) (m0 : 0 ≤ m) (mn : m ≤ n) (ht : cRight t = true) (a2 q : Int) (i : Nat) (hx : n * (n + 1) = a2) (hx0 : 2 ≤ a2) (hx1 : a2 ≤ 42) (hq : Int.tdiv a2 2 = q) (hq0 : 1 ≤ q) (hq1 : q ≤ 21) (hr : q - 1 + m = (i : Int)) (hi : i < 27) (h5 : i < 5) (hg : partS false 1099511627776 (at0 (i * 2)) 10000 = (g0, false)) (hh : partS false 1099511627776 (at0 (i * 2 + 1)) 10000 = (h0, false)) (hd : cDaysS false t = (d, false)) (hy : divS false d 401596622045184 = (y, false)) (hgy : partS false 1099511627776 (yr0 (i * 2)) 10000 = (g1, false)) (hhy : partS false 1099511627776 (yr0 (i * 2 + 1)) 10000 = (h1, false)) (hmg : mulS false y g1 = (x1, false)) (hmh : mulS false y h1 = (x2, false)) (hag : addS false g0 x1 = (g2, false)) (hah : addS false h0 x2 = (h2, false)) :
    Calls Tryz.prog 175 #[.pointer (some ⟨b, 0, none⟩), .int .i64 n, .int .i64 m, .int .i64 t] w fun e w' => e = .returned (.tuple #[.int .i64 g2, .int .i64 h2]) ∧ Fl b false w' ∧ Kept b w w' := by
 have hl := hw.lies
 have l_0 := hG0.lies
 have l_1 := hG1.lies
 go_enter Tryz.func175, Tryz.ntmps175
 go_wp2_with fail
 refine (cRight_any t _).mono ?_
 rintro e w1 ⟨rfl, k1⟩
 rw [ht]
 try dsimp only
 have K1 : Kept b w w1 := Kept.trans (Kept.refl b w) (Kept.of_below k1)
 have BF_1 := hw.below k1
 have G0_1 := hG0.below k1
 have G1_1 := hG1.below k1
 have z1 := K1.size
 clear hG0 hG1 k1
 go_wp2_with fail
 refine wp_region_held_drew (S := fun w' => Arr 0 (row 54 at0) w') (by kernel_rfl) G0_1.drew (fun zH => ?_)
 refine zT 0 rfl (by kernel_rfl) (fun _ _ _ => id) rfl (fun _ _ => by go_simp <;> with_reducible rfl) zH ?_
 simp only [Act.put, zA, zB, zC]
 refine zT 1 rfl (by kernel_rfl) (fun _ _ _ => id) rfl (fun _ _ => by go_simp <;> with_reducible rfl) zH ?_
 simp only [Act.put, zA, zB, zC]
 refine zT 2 rfl (by kernel_rfl) (fun _ _ _ => id) rfl (fun _ _ => by have hi0 : (i : Int) < 27 := (by omega); go_simp <;> with_reducible rfl) zH ?_
 simp only [Act.put, zA, zB, zC]
 refine zT 3 rfl (by kernel_rfl) (fun _ _ _ => id) rfl (fun _ _ => by go_simp <;> with_reducible rfl) zH ?_
 simp only [Act.put, zA, zB, zC]
 refine zT 4 rfl (by kernel_rfl) (fun _ _ _ => id) rfl (fun wx hS => by have hc0 : wx.cell? ⟨0, i * 2, none⟩ = some (.int .i64 (at0 (i * 2))) := row_c hS (i * 2) (by omega); go_simp <;> with_reducible rfl) zH ?_
 simp only [Act.put, zA, zB, zC]
 refine zT 6 rfl (by kernel_rfl) (fun _ _ _ => id) rfl (fun _ _ => by go_simp <;> with_reducible rfl) zH ?_
 simp only [Act.put, zA, zB, zC]
 refine zT 7 rfl (by kernel_rfl) (fun _ _ _ => id) rfl (fun _ _ => by go_simp <;> with_reducible rfl) zH ?_
 simp only [Act.put, zA, zB, zC]
 refine zT 8 rfl (by kernel_rfl) (fun _ _ _ => id) rfl (fun _ _ => by have hi0 : (i : Int) < 27 := (by omega); go_simp <;> with_reducible rfl) zH ?_
 simp only [Act.put, zA, zB, zC]
 refine zT 9 rfl (by kernel_rfl) (fun _ _ _ => id) rfl (fun _ _ => by go_simp <;> with_reducible rfl) zH ?_
 simp only [Act.put, zA, zB, zC]
 refine zT 10 rfl (by kernel_rfl) (fun _ _ _ => id) rfl (fun wx hS => by have hc0 : wx.cell? ⟨0, i * 2 + 1, none⟩ = some (.int .i64 (at0 (i * 2 + 1))) := row_c hS (i * 2 + 1) (by omega); go_simp <;> with_reducible rfl) zH ?_
 simp only [Act.put, zA, zB, zC]
 refine zK 5 (by kernel_rfl) rfl (fun K hK => ?_)
 go_simp
 refine (microteslas_any b false (at0 (i * 2)) _ BF_1.drew).mono ?_
 rintro e w2 ⟨rfl, f2, k2⟩
 rw [hg] at f2 ⊢
 dsimp only at f2 ⊢
 have K2 : Kept b w w2 := Kept.trans K1.drew k2
 have G0_2 := G0_1.drew.kept k2 (by omega)
 have G1_2 := G1_1.drew.kept k2 (by omega)
 have z2 := K2.size
 clear zH
 refine hK.out _ _ G0_2 (fun zH => ?_)
 clear hK K K1 BF_1 G0_1 G1_1 k2
 refine zK 11 (by kernel_rfl) rfl (fun K hK => ?_)
 go_simp
 refine (microteslas_any b false (at0 (i * 2 + 1)) _ f2).mono ?_
 rintro e w3 ⟨rfl, f3, k3⟩
 rw [hh] at f3 ⊢
 dsimp only at f3 ⊢
 have K3 := Kept.trans K2 k3
 have G0_3 := G0_2.kept k3 (by omega)
 have G1_3 := G1_2.kept k3 (by omega)
 have z3 := K3.size
 clear zH
 refine hK.out _ _ G0_3 (fun zH => ?_)
 clear hK K K2 f2 G0_2 G1_2 k3
 refine zT 12 rfl (by kernel_rfl) (fun _ _ _ => id) rfl (fun _ _ => by go_simp <;> with_reducible rfl) zH ?_
 simp only [Act.put, zA, zB, zC]
 refine zT 13 rfl (by kernel_rfl) (fun _ _ _ => id) rfl (fun _ _ => by go_simp <;> with_reducible rfl) zH ?_
 simp only [Act.put, zA, zB, zC]
 refine wpAnyH_done (by kernel_rfl) ?_ _
 clear zH
 go_wp2_with fail
 refine (cDays_any b false t _ f3).mono ?_
 rintro e w4 ⟨rfl, f4, k4⟩
 rw [hd] at f4 ⊢
 dsimp only at f4 ⊢
 have K4 := Kept.trans K3 k4
 have G0_4 := G0_3.kept k4 (by omega)
 have G1_4 := G1_3.kept k4 (by omega)
 have z4 := K4.size
 clear K3 f3 G0_3 G1_3 k4
 go_wp2_with fail
 refine (Div_any b false d 401596622045184 _ f4).mono ?_
 rintro e w5 ⟨rfl, f5, k5⟩
 rw [hy] at f5 ⊢
 dsimp only at f5 ⊢
 have K5 := Kept.trans K4 k5
 have G0_5 := G0_4.kept k5 (by omega)
 have G1_5 := G1_4.kept k5 (by omega)
 have z5 := K5.size
 clear K4 f4 G0_4 G1_4 k5
 have c5_G1_0 : w5.cell? ⟨1, i * 2, none⟩ = some (.int .i64 (yr0 (i * 2))) := row_c G1_5 (i * 2) (by omega)
 have i5_1 : (i : Int) < 5 := by omega
 go_wp2_with fail
 refine (microteslas_any b false (yr0 (i * 2)) _ f5).mono ?_
 rintro e w6 ⟨rfl, f6, k6⟩
 rw [hgy] at f6 ⊢
 dsimp only at f6 ⊢
 have K6 := Kept.trans K5 k6
 have G0_6 := G0_5.kept k6 (by omega)
 have G1_6 := G1_5.kept k6 (by omega)
 have z6 := K6.size
 clear c5_G1_0 i5_1 K5 f5 G0_5 G1_5 k6
 go_wp2_with fail
 refine (Mul_any b false y g1 _ f6).mono ?_
 rintro e w7 ⟨rfl, f7, k7⟩
 rw [hmg] at f7 ⊢
 dsimp only at f7 ⊢
 have K7 := Kept.trans K6 k7
 have G0_7 := G0_6.kept k7 (by omega)
 have G1_7 := G1_6.kept k7 (by omega)
 have z7 := K7.size
 clear K6 f6 G0_6 G1_6 k7
 go_wp2_with fail
 refine (Add_any b false g0 x1 _ f7).mono ?_
 rintro e w8 ⟨rfl, f8, k8⟩
 rw [hag] at f8 ⊢
 dsimp only at f8 ⊢
 have K8 := Kept.trans K7 k8
 have G0_8 := G0_7.kept k8 (by omega)
 have G1_8 := G1_7.kept k8 (by omega)
 have z8 := K8.size
 clear K7 f7 G0_7 G1_7 k8
 have c8_G1_0 : w8.cell? ⟨1, i * 2 + 1, none⟩ = some (.int .i64 (yr0 (i * 2 + 1))) := row_c G1_8 (i * 2 + 1) (by omega)
 have i8_1 : (i : Int) < 5 := by omega
 go_wp2_with fail
 refine (microteslas_any b false (yr0 (i * 2 + 1)) _ f8).mono ?_
 rintro e w9 ⟨rfl, f9, k9⟩
 rw [hhy] at f9 ⊢
 dsimp only at f9 ⊢
 have K9 := Kept.trans K8 k9
 have G0_9 := G0_8.kept k9 (by omega)
 have G1_9 := G1_8.kept k9 (by omega)
 have z9 := K9.size
 clear c8_G1_0 i8_1 K8 f8 G0_8 G1_8 k9
 go_wp2_with fail
 refine (Mul_any b false y h1 _ f9).mono ?_
 rintro e w10 ⟨rfl, f10, k10⟩
 rw [hmh] at f10 ⊢
 dsimp only at f10 ⊢
 have K10 := Kept.trans K9 k10
 have G0_10 := G0_9.kept k10 (by omega)
 have G1_10 := G1_9.kept k10 (by omega)
 have z10 := K10.size
 clear K9 f9 G0_9 G1_9 k10
 go_wp2_with fail
 refine (Add_any b false h0 x2 _ f10).mono ?_
 rintro e w11 ⟨rfl, f11, k11⟩
 rw [hah] at f11 ⊢
 dsimp only at f11 ⊢
 have K11 := Kept.trans K10 k11
 have G0_11 := G0_10.kept k11 (by omega)
 have G1_11 := G1_10.kept k11 (by omega)
 have z11 := K11.size
 clear K10 f10 G0_10 G1_10 k11
 go_wp2
 refine bodyPost_ret (v := .tuple #[.int .i64 g2, .int .i64 h2]) (by simp [results, Tryz.results175, go_sem]) rfl ?_
 exact ⟨rfl, f11, K11⟩
end Go.Proofs.YteeohbiaclojaaaGreatDoor
namespace Go.Proofs.YteeohbiaclojaaaGreatDoor
open Go.RowKit
set_option maxRecDepth 100000
set_option maxHeartbeats 20000000
theorem num_ba (b : Nat) (n m t : Int) (w : World) (hw : Fl b false w) (c1 : n < 1) :
    Calls Tryz.prog 175 #[.pointer (some ⟨b, 0, none⟩), .int .i64 n, .int .i64 m, .int .i64 t] w fun e w' => e = .returned (.tuple #[.int .i64 0, .int .i64 0]) ∧ Fl b true w' ∧ Kept b w w' := by
 have hl := hw.lies
 go_enter Tryz.func175, Tryz.ntmps175
 go_wp2_with fail
 refine (Fail_any b false  _ hw).mono ?_
 rintro e w1 ⟨rfl, f1, k1⟩
 have K1 : Kept b w w1 := Kept.trans (Kept.refl b w) k1
 have z1 := K1.size
 clear k1
 go_wp2
 refine bodyPost_ret (v := .tuple #[.int .i64 0, .int .i64 0]) (by simp [results, Tryz.results175, go_sem]) rfl ?_
 exact ⟨rfl, f1, K1⟩
theorem num_bb (b : Nat) (n m t : Int) (w : World) (hw : Fl b false w) (c1 : ¬ n < 1) (c2 : n > 6) :
    Calls Tryz.prog 175 #[.pointer (some ⟨b, 0, none⟩), .int .i64 n, .int .i64 m, .int .i64 t] w fun e w' => e = .returned (.tuple #[.int .i64 0, .int .i64 0]) ∧ Fl b true w' ∧ Kept b w w' := by
 have hl := hw.lies
 go_enter Tryz.func175, Tryz.ntmps175
 go_wp2_with fail
 refine (Fail_any b false  _ hw).mono ?_
 rintro e w1 ⟨rfl, f1, k1⟩
 have K1 : Kept b w w1 := Kept.trans (Kept.refl b w) k1
 have z1 := K1.size
 clear k1
 go_wp2
 refine bodyPost_ret (v := .tuple #[.int .i64 0, .int .i64 0]) (by simp [results, Tryz.results175, go_sem]) rfl ?_
 exact ⟨rfl, f1, K1⟩
theorem num_bc (b : Nat) (n m t : Int) (w : World) (hw : Fl b false w) (c1 : ¬ n < 1) (c2 : ¬ n > 6) (c3 : m < 0) :
    Calls Tryz.prog 175 #[.pointer (some ⟨b, 0, none⟩), .int .i64 n, .int .i64 m, .int .i64 t] w fun e w' => e = .returned (.tuple #[.int .i64 0, .int .i64 0]) ∧ Fl b true w' ∧ Kept b w w' := by
 have hl := hw.lies
 go_enter Tryz.func175, Tryz.ntmps175
 go_wp2_with fail
 refine (Fail_any b false  _ hw).mono ?_
 rintro e w1 ⟨rfl, f1, k1⟩
 have K1 : Kept b w w1 := Kept.trans (Kept.refl b w) k1
 have z1 := K1.size
 clear k1
 go_wp2
 refine bodyPost_ret (v := .tuple #[.int .i64 0, .int .i64 0]) (by simp [results, Tryz.results175, go_sem]) rfl ?_
 exact ⟨rfl, f1, K1⟩
theorem num_bd (b : Nat) (n m t : Int) (w : World) (hw : Fl b false w) (c1 : ¬ n < 1) (c2 : ¬ n > 6) (c3 : ¬ m < 0) (c4 : m > n) :
    Calls Tryz.prog 175 #[.pointer (some ⟨b, 0, none⟩), .int .i64 n, .int .i64 m, .int .i64 t] w fun e w' => e = .returned (.tuple #[.int .i64 0, .int .i64 0]) ∧ Fl b true w' ∧ Kept b w w' := by
 have hl := hw.lies
 go_enter Tryz.func175, Tryz.ntmps175
 go_wp2_with fail
 refine (Fail_any b false  _ hw).mono ?_
 rintro e w1 ⟨rfl, f1, k1⟩
 have K1 : Kept b w w1 := Kept.trans (Kept.refl b w) k1
 have z1 := K1.size
 clear k1
 go_wp2
 refine bodyPost_ret (v := .tuple #[.int .i64 0, .int .i64 0]) (by simp [results, Tryz.results175, go_sem]) rfl ?_
 exact ⟨rfl, f1, K1⟩
theorem num_be (b : Nat) (n m t : Int) (w : World) (hw : Fl b false w) (c1 : ¬ n < 1) (c2 : ¬ n > 6) (c3 : ¬ m < 0) (c4 : ¬ m > n) (ht : cRight t = false) :
    Calls Tryz.prog 175 #[.pointer (some ⟨b, 0, none⟩), .int .i64 n, .int .i64 m, .int .i64 t] w fun e w' => e = .returned (.tuple #[.int .i64 0, .int .i64 0]) ∧ Fl b true w' ∧ Kept b w w' := by
 have hl := hw.lies
 go_enter Tryz.func175, Tryz.ntmps175
 go_wp2_with fail
 refine (cRight_any t _).mono ?_
 rintro e w1 ⟨rfl, k1⟩
 rw [ht]
 try dsimp only
 have K1 : Kept b w w1 := Kept.trans (Kept.refl b w) (Kept.of_below k1)
 have BF_1 := hw.below k1
 have z1 := K1.size
 clear k1
 go_wp2_with fail
 refine (Fail_any b false  _ BF_1).mono ?_
 rintro e w2 ⟨rfl, f2, k2⟩
 have K2 := Kept.trans K1 k2
 have z2 := K2.size
 clear K1 BF_1 k2
 go_wp2
 refine bodyPost_ret (v := .tuple #[.int .i64 0, .int .i64 0]) (by simp [results, Tryz.results175, go_sem]) rfl ?_
 exact ⟨rfl, f2, K2⟩
end Go.Proofs.YteeohbiaclojaaaGreatDoor
namespace Go.Proofs.YteeohbiaclojaaaGreatDoor
open Go.RowKit
theorem nIdx_at {N M : Nat} (h1 : 1 ≤ N) (h6 : N ≤ 6) : ∃ a q : Int, (N : Int) * ((N : Int) + 1) = a ∧ 2 ≤ a ∧ a ≤ 42 ∧ Int.tdiv a 2 = q ∧ 1 ≤ q ∧ q ≤ 21 ∧ q - 1 + (M : Int) = ((nIdx N M : Nat) : Int) := by
 have c : N = 1 ∨ N = 2 ∨ N = 3 ∨ N = 4 ∨ N = 5 ∨ N = 6 := by omega
 unfold nIdx
 rcases c with rfl | rfl | rfl | rfl | rfl | rfl
 ·exact ⟨2, 1, by decide, by decide, by decide, by decide, by decide, by decide, by omega⟩
 ·exact ⟨6, 3, by decide, by decide, by decide, by decide, by decide, by decide, by omega⟩
 ·exact ⟨12, 6, by decide, by decide, by decide, by decide, by decide, by decide, by omega⟩
 ·exact ⟨20, 10, by decide, by decide, by decide, by decide, by decide, by decide, by omega⟩
 ·exact ⟨30, 15, by decide, by decide, by decide, by decide, by decide, by decide, by omega⟩
 ·exact ⟨42, 21, by decide, by decide, by decide, by decide, by decide, by decide, by omega⟩
theorem num_any (b : Nat) (bad : Bool) (n m t : Int) (w : World) (hw : Fl b bad w) (hG0 : Arr 0 (row 54 at0) w) (hG1 : Arr 1 (row 10 yr0) w) (hb : 1 < b) (hz : bad = false) :
    Calls Tryz.prog 175 #[.pointer (some ⟨b, 0, none⟩), .int .i64 n, .int .i64 m, .int .i64 t] w fun e w' => e = .returned (.tuple #[.int .i64 (numS bad n m t).1.1, .int .i64 (numS bad n m t).1.2]) ∧ Fl b (numS bad n m t).2 w' ∧ Kept b w w' := by
 subst hz
 by_cases h : numIn n m t
 ·obtain ⟨n1, n6, m0, mn, t0, t1⟩ := h
  obtain ⟨N, rfl⟩ := Int.eq_ofNat_of_zero_le (show 0 ≤ n by omega)
  obtain ⟨M, rfl⟩ := Int.eq_ofNat_of_zero_le m0
  have h1 : 1 ≤ N := by omega
  have h6 : N ≤ 6 := by omega
  have hm : M ≤ N := by omega
  obtain ⟨a, q, hx, x0, x1, hq, q0, q1, hr⟩ := nIdx_at (M := M) h1 h6
  obtain ⟨hi, hg, hh⟩ := num_parts h1 h6 hm
  obtain ⟨hy, y0, y1⟩ := year_in t0 t1
  rw [numS_in h1 h6 hm t0 t1]
  by_cases h2 : N ≤ 2
  ·obtain ⟨i5, gy, hhy⟩ := num_low h1 h2 hm
   have G := year_g (m := M) y0 y1 h2
   have K := year_h (m := M) y0 y1 h2
   exact num_lo b N M t _ _ _ _ _ _ _ _ _ _ w hw hG0 hG1 hb n1 n6 m0 mn (cRight_in t0 t1) a q _ hx x0 x1 hq q0 q1 hr hi i5 hg hh (cDaysS_in t0 t1) hy gy hhy G.hm K.hm G.ha K.ha
  ·have eg : gS (yearS t) N M = fG N M := if_neg h2
   have eh : hS (yearS t) N M = fH N M := if_neg h2
   rw [eg, eh]
   exact num_hi b N M t _ _ w hw hG0 hG1 hb n1 n6 m0 mn (cRight_in t0 t1) a q _ hx x0 x1 hq q0 q1 hr hi (num_high h2 h6 hm) hg hh
 ·rw [numS_out h]
  by_cases c1 : n < 1
  ·exact num_ba b n m t w hw c1
  by_cases c2 : n > 6
  ·exact num_bb b n m t w hw c1 c2
  by_cases c3 : m < 0
  ·exact num_bc b n m t w hw c1 c2 c3
  by_cases c4 : m > n
  ·exact num_bd b n m t w hw c1 c2 c3 c4
  ·exact num_be b n m t w hw c1 c2 c3 c4 (cRight_out (fun k => h ⟨by omega, by omega, by omega, by omega, k.1, k.2⟩))
end Go.Proofs.YteeohbiaclojaaaGreatDoor
