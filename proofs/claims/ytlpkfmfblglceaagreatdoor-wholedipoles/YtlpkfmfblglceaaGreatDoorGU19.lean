/- A part. -/
import Derived.Handy
import Derived.Deep.RegionHeld3
import Derived.Test.YtlpkfmfblglceaaGreatDoorGU11
import Derived.Test.YtlpkfmfblglceaaGreatDoorGU02
import Derived.Test.YtlpkfmfblglceaaGreatDoorGU10
namespace Go.Proofs.YtlpkfmfblglceaaGreatDoor
open Go.RowKit
set_option maxRecDepth 100000
set_option maxHeartbeats 20000000
theorem sound_any (b : Nat) (bad : Bool) (v : V3) (w : World) (hw : Fl b bad w) :
    Calls Tryz.prog 143 #[.pointer (some ⟨b, 0, none⟩), .agg #[.int .i64 v.1, .int .i64 v.2.1, .int .i64 v.2.2]] w fun e w' => e = .returned (.agg #[.int .i64 (soundS bad v).1.1, .int .i64 (soundS bad v).1.2.1, .int .i64 (soundS bad v).1.2.2]) ∧ Fl b (soundS bad v).2 w' ∧ Kept b w w' := by
 have hc := hw.cell
 have hl := hw.lies
 have HW : Hid _ := hw
 clear hw
 cases bad
 ·go_enter Tryz.func143, Tryz.ntmps143
  go_wp2
  refine bodyPost_ret (v := .agg #[.int .i64 v.1, .int .i64 v.2.1, .int .i64 v.2.2]) (by simp [results, Tryz.results143, go_sem]) rfl ?_
  exact ⟨rfl, (HW.out.alloc _).alloc _, ((Kept.refl _ _).al _).al _⟩
 ·go_enter Tryz.func143, Tryz.ntmps143
  go_wp2
  refine bodyPost_ret (v := .agg #[.int .i64 0, .int .i64 0, .int .i64 0]) (by simp [results, Tryz.results143, go_sem]) rfl ?_
  exact ⟨rfl, (HW.out.alloc _).alloc _, ((Kept.refl _ _).al _).al _⟩
theorem vScale_any (b : Nat) (bad : Bool) (p : V3) (k : Int) (w : World) (hw : Fl b bad w) :
    Calls Tryz.prog 94 #[.pointer (some ⟨b, 0, none⟩), .agg #[.int .i64 p.1, .int .i64 p.2.1, .int .i64 p.2.2], .int .i64 k] w fun e w' => e = .returned (.agg #[.int .i64 ((vScaleS bad p k).1.1), .int .i64 ((vScaleS bad p k).1.2.1), .int .i64 ((vScaleS bad p k).1.2.2)]) ∧ Fl b (vScaleS bad p k).2 w' ∧ Kept b w w' := by
 have hl := hw.lies
 go_enter Tryz.func94, Tryz.ntmps94
 go_wp2_with fail
 refine wp_region_held_drew (S := fun w' => Arr w.heap.size [.int .i64 p.1, .int .i64 p.2.1, .int .i64 p.2.2] w') (by kernel_rfl) ((Arr_at _ _ [.int .i64 p.1, .int .i64 p.2.1, .int .i64 p.2.2] _ (by simp)).alloc _).drew (fun zH => ?_)
 refine zT 0 rfl (by kernel_rfl) (fun _ _ _ => id) rfl (fun _ _ => by go_simp <;> with_reducible rfl) zH ?_
 simp only [Act.put, zA, zB, zC]
 refine zT 1 rfl (by kernel_rfl) (fun _ _ _ => id) rfl (fun _ _ => by go_simp <;> with_reducible rfl) zH ?_
 simp only [Act.put, zA, zB, zC]
 refine zT 2 rfl (by kernel_rfl) (fun _ _ _ => id) rfl (fun _ _ => by go_simp <;> with_reducible rfl) zH ?_
 simp only [Act.put, zA, zB, zC]
 refine zT 3 rfl (by kernel_rfl) (fun _ _ _ => id) rfl (fun wx hS => by have hc0 : wx.cell? ⟨w.heap.size, 0, none⟩ = some (.int .i64 p.1) := hS.c 0 (zD rfl); go_simp <;> with_reducible rfl) zH ?_
 simp only [Act.put, zA, zB, zC]
 refine zT 4 rfl (by kernel_rfl) (fun _ _ _ => id) rfl (fun _ _ => by go_simp <;> with_reducible rfl) zH ?_
 simp only [Act.put, zA, zB, zC]
 refine zT 6 rfl (by kernel_rfl) (fun _ _ _ => id) rfl (fun _ _ => by go_simp <;> with_reducible rfl) zH ?_
 simp only [Act.put, zA, zB, zC]
 refine zT 7 rfl (by kernel_rfl) (fun _ _ _ => id) rfl (fun _ _ => by go_simp <;> with_reducible rfl) zH ?_
 simp only [Act.put, zA, zB, zC]
 refine zT 8 rfl (by kernel_rfl) (fun _ _ _ => id) rfl (fun wx hS => by have hc1 : wx.cell? ⟨w.heap.size, 1, none⟩ = some (.int .i64 p.2.1) := hS.c 1 (zD rfl); go_simp <;> with_reducible rfl) zH ?_
 simp only [Act.put, zA, zB, zC]
 refine zT 9 rfl (by kernel_rfl) (fun _ _ _ => id) rfl (fun _ _ => by go_simp <;> with_reducible rfl) zH ?_
 simp only [Act.put, zA, zB, zC]
 refine zT 11 rfl (by kernel_rfl) (fun _ _ _ => id) rfl (fun _ _ => by go_simp <;> with_reducible rfl) zH ?_
 simp only [Act.put, zA, zB, zC]
 refine zT 12 rfl (by kernel_rfl) (fun _ _ _ => id) rfl (fun _ _ => by go_simp <;> with_reducible rfl) zH ?_
 simp only [Act.put, zA, zB, zC]
 refine zT 13 rfl (by kernel_rfl) (fun _ _ _ => id) rfl (fun wx hS => by have hc2 : wx.cell? ⟨w.heap.size, 2, none⟩ = some (.int .i64 p.2.2) := hS.c 2 (zD rfl); go_simp <;> with_reducible rfl) zH ?_
 simp only [Act.put, zA, zB, zC]
 refine zT 14 rfl (by kernel_rfl) (fun _ _ _ => id) rfl (fun _ _ => by go_simp <;> with_reducible rfl) zH ?_
 simp only [Act.put, zA, zB, zC]
 refine zK 5 (by kernel_rfl) rfl (fun K hK => ?_)
 go_simp
 refine (Mul_any b bad p.1 k _ ((hw.alloc _).alloc _).drew).mono ?_
 rintro e w1 ⟨rfl, f1, k1⟩
 generalize e1 : mulS bad p.1 k = r1 at f1 ⊢
 have E1 : Hid _ := e1
 clear e1
 have K1 : Kept b w w1 := Kept.trans (((Kept.refl b w).al _).al _).drew k1
 have B0_1 : Arr w.heap.size [.int .i64 p.1, .int .i64 p.2.1, .int .i64 p.2.2] w1 := ((Arr_at _ _ [.int .i64 p.1, .int .i64 p.2.1, .int .i64 p.2.2] _ (by simp)).alloc _).drew.kept k1 (by omega)
 have B1_1 : Arr (w.heap.size + 1) [.int .i64 0, .int .i64 0, .int .i64 0] w1 := (Arr_at _ _ [.int .i64 0, .int .i64 0, .int .i64 0] _ (by simp)).drew.kept k1 (by omega)
 have z1 := B1_1.lies
 clear zH
 refine hK.out _ _ B0_1 (fun zH => ?_)
 clear hK K k1
 refine zK 10 (by kernel_rfl) rfl (fun K hK => ?_)
 go_simp
 refine (Mul_any b r1.2 p.2.1 k _ f1).mono ?_
 rintro e w2 ⟨rfl, f2, k2⟩
 generalize e2 : mulS r1.2 p.2.1 k = r2 at f2 ⊢
 have E2 : Hid _ := e2
 clear e2
 have K2 := Kept.trans K1 k2
 have B0_2 := B0_1.kept k2 (by omega)
 have B1_2 := B1_1.kept k2 (by omega)
 have z2 := B1_2.lies
 clear zH
 refine hK.out _ _ B0_2 (fun zH => ?_)
 clear hK K K1 f1 B0_1 B1_1 k2
 refine zK 15 (by kernel_rfl) rfl (fun K hK => ?_)
 go_simp
 refine (Mul_any b r2.2 p.2.2 k _ f2).mono ?_
 rintro e w3 ⟨rfl, f3, k3⟩
 generalize e3 : mulS r2.2 p.2.2 k = r3 at f3 ⊢
 have E3 : Hid _ := e3
 clear e3
 have K3 := Kept.trans K2 k3
 have B0_3 := B0_2.kept k3 (by omega)
 have B1_3 := B1_2.kept k3 (by omega)
 have z3 := B1_3.lies
 clear zH
 refine hK.out _ _ B0_3 (fun zH => ?_)
 clear hK K K2 f2 B0_2 B1_2 k3
 refine zT 16 rfl (by kernel_rfl) (fun _ _ _ => id) rfl (fun _ _ => by go_simp <;> with_reducible rfl) zH ?_
 simp only [Act.put, zA, zB, zC]
 refine zK 17 (by kernel_rfl) rfl (fun K hK => ?_)
 go_simp
 refine (sound_any b r3.2 (r1.1, r2.1, r3.1) _ f3).mono ?_
 rintro e w4 ⟨rfl, f4, k4⟩
 generalize e4 : soundS r3.2 (r1.1, r2.1, r3.1) = r4 at f4 ⊢
 have E4 : Hid _ := e4
 clear e4
 have K4 := Kept.trans K3 k4
 have B0_4 := B0_3.kept k4 (by omega)
 have B1_4 := B1_3.kept k4 (by omega)
 have z4 := B1_4.lies
 clear zH
 refine hK.out _ _ B0_4 (fun zH => ?_)
 clear hK K K3 f3 B0_3 B1_3 k4
 refine zK 18 (by kernel_rfl) rfl (fun K hK => ?_)
 have c2_B1_0 : w4.cell? ⟨w.heap.size + 1, 0, none⟩ = some (.int .i64 0) := B1_4.c 0 (zD rfl)
 have c2_B1_1 : w4.cell? ⟨w.heap.size + 1, 1, none⟩ = some (.int .i64 0) := B1_4.c 1 (zD rfl)
 have c2_B1_2 : w4.cell? ⟨w.heap.size + 1, 2, none⟩ = some (.int .i64 0) := B1_4.c 2 (zD rfl)
 have g2_B1_0 := B1_4.f 0 (zD rfl)
 have g2_B1_1 := B1_4.f 1 (zD rfl)
 have g2_B1_2 := B1_4.f 2 (zD rfl)
 go_simp
 clear zH
 refine hK.out _ _ (((B0_4.new _ _ (by omega) _).new _ _ (by omega) _).new _ _ (by omega) _) (fun zH => ?_)
 clear hK K c2_B1_0 c2_B1_1 c2_B1_2 g2_B1_0 g2_B1_1 g2_B1_2
 refine wpAnyH_done (by kernel_rfl) ?_ _
 clear zH
 go_wp2
 have d0 := Arr.c (B1_4.put 0 (zD rfl) (.int .i64 r4.1.1) [.int .i64 r4.1.1, .int .i64 0, .int .i64 0] rfl) 0 (zD rfl)
 have d1 := Arr.c ((B1_4.put 0 (zD rfl) (.int .i64 r4.1.1) [.int .i64 r4.1.1, .int .i64 0, .int .i64 0] rfl).put 1 (zD rfl) (.int .i64 r4.1.2.1) [.int .i64 r4.1.1, .int .i64 r4.1.2.1, .int .i64 0] rfl) 1 (zD rfl)
 have d2 := Arr.c (((B1_4.put 0 (zD rfl) (.int .i64 r4.1.1) [.int .i64 r4.1.1, .int .i64 0, .int .i64 0] rfl).put 1 (zD rfl) (.int .i64 r4.1.2.1) [.int .i64 r4.1.1, .int .i64 r4.1.2.1, .int .i64 0] rfl).put 2 (zD rfl) (.int .i64 r4.1.2.2) [.int .i64 r4.1.1, .int .i64 r4.1.2.1, .int .i64 r4.1.2.2] rfl) 2 (zD rfl)
 refine bodyPost_ret (v := .agg #[.int .i64 r4.1.1, .int .i64 r4.1.2.1, .int .i64 r4.1.2.2]) (by simp [results, Tryz.results94, go_sem, d0, d1, d2]) rfl ?_
 have hs : vScaleS bad p k = (r4.1, r4.2) := by unfold vScaleS; simp only [E1.out, E2.out, E3.out, E4.out]
 rw [hs]
 exact ⟨rfl, (((f4.new _ _ (by omega) _).new _ _ (by omega) _).new _ _ (by omega) _), (((K4.new _ _ (by omega) _).new _ _ (by omega) _).new _ _ (by omega) _)⟩
theorem vNorm_any (b : Nat) (bad : Bool) (p : V3) (w : World) (hw : Fl b bad w) :
    Calls Tryz.prog 48 #[.pointer (some ⟨b, 0, none⟩), .agg #[.int .i64 p.1, .int .i64 p.2.1, .int .i64 p.2.2]] w fun e w' => e = .returned (.int .i64 ((vNormS bad p).1)) ∧ Fl b (vNormS bad p).2 w' ∧ Kept b w w' := by
 have hl := hw.lies
 go_enter Tryz.func48, Tryz.ntmps48
 go_wp2_with fail
 refine (Norm_any b bad p.1 p.2.1 p.2.2 _ (hw.alloc _)).mono ?_
 rintro e w1 ⟨rfl, f1, k1⟩
 generalize e1 : normS bad p.1 p.2.1 p.2.2 = r1 at f1 ⊢
 have E1 : Hid _ := e1
 clear e1
 have K1 : Kept b w w1 := Kept.trans ((Kept.refl b w).al _) k1
 have B0_1 : Arr w.heap.size [.int .i64 p.1, .int .i64 p.2.1, .int .i64 p.2.2] w1 := (Arr_at _ _ [.int .i64 p.1, .int .i64 p.2.1, .int .i64 p.2.2] _ (by simp)).kept k1 (by omega)
 have z1 := B0_1.lies
 clear k1
 go_wp2
 go_ret
 have hs : vNormS bad p = (r1.1, r1.2) := by unfold vNormS; simp only [E1.out]
 rw [hs]
 exact ⟨rfl, f1, K1⟩
theorem vUnit_any (b : Nat) (bad : Bool) (p : V3) (w : World) (hw : Fl b bad w) :
    Calls Tryz.prog 178 #[.pointer (some ⟨b, 0, none⟩), .agg #[.int .i64 p.1, .int .i64 p.2.1, .int .i64 p.2.2]] w fun e w' => e = .returned (.agg #[.int .i64 ((vUnitS bad p).1.1), .int .i64 ((vUnitS bad p).1.2.1), .int .i64 ((vUnitS bad p).1.2.2)]) ∧ Fl b (vUnitS bad p).2 w' ∧ Kept b w w' := by
 have hl := hw.lies
 go_enter Tryz.func178, Tryz.ntmps178
 go_wp2_with fail
 refine (vNorm_any b bad p _ ((hw.alloc _).alloc _)).mono ?_
 rintro e w1 ⟨rfl, f1, k1⟩
 generalize e1 : vNormS bad p = r1 at f1 ⊢
 have E1 : Hid _ := e1
 clear e1
 have K1 : Kept b w w1 := Kept.trans (((Kept.refl b w).al _).al _) k1
 have B0_1 : Arr w.heap.size [.int .i64 p.1, .int .i64 p.2.1, .int .i64 p.2.2] w1 := ((Arr_at _ _ [.int .i64 p.1, .int .i64 p.2.1, .int .i64 p.2.2] _ (by simp)).alloc _).kept k1 (by omega)
 have B1_1 : Arr (w.heap.size + 1) [.int .i64 0, .int .i64 0, .int .i64 0] w1 := (Arr_at _ _ [.int .i64 0, .int .i64 0, .int .i64 0] _ (by simp)).kept k1 (by omega)
 have z1 := B1_1.lies
 clear k1
 by_cases hc1 : r1.1 < 1048576
 ·have Hhc1 : Hid (r1.1 < 1048576) := hc1
  go_wp2_with fail
  refine (Fail_any b r1.2  _ f1).mono ?_
  rintro e w2 ⟨rfl, f2, k2⟩
  have K2 := Kept.trans K1 k2
  have B0_2 := B0_1.kept k2 (by omega)
  have B1_2 := B1_1.kept k2 (by omega)
  have z2 := B1_2.lies
  clear K1 f1 B0_1 B1_1 k2
  have c3_B1_0 : w2.cell? ⟨w.heap.size + 1, 0, none⟩ = some (.int .i64 0) := B1_2.c 0 (zD rfl)
  have c3_B1_1 : w2.cell? ⟨w.heap.size + 1, 1, none⟩ = some (.int .i64 0) := B1_2.c 1 (zD rfl)
  have c3_B1_2 : w2.cell? ⟨w.heap.size + 1, 2, none⟩ = some (.int .i64 0) := B1_2.c 2 (zD rfl)
  have g3_B1_0 := B1_2.f 0 (zD rfl)
  have g3_B1_1 := B1_2.f 1 (zD rfl)
  have g3_B1_2 := B1_2.f 2 (zD rfl)
  go_wp2
  clear c3_B1_0 c3_B1_1 c3_B1_2 g3_B1_0 g3_B1_1 g3_B1_2
  have d0 := Arr.c (B1_2.put 0 (zD rfl) (.int .i64 0) [.int .i64 0, .int .i64 0, .int .i64 0] rfl) 0 (zD rfl)
  have d1 := Arr.c ((B1_2.put 0 (zD rfl) (.int .i64 0) [.int .i64 0, .int .i64 0, .int .i64 0] rfl).put 1 (zD rfl) (.int .i64 0) [.int .i64 0, .int .i64 0, .int .i64 0] rfl) 1 (zD rfl)
  have d2 := Arr.c (((B1_2.put 0 (zD rfl) (.int .i64 0) [.int .i64 0, .int .i64 0, .int .i64 0] rfl).put 1 (zD rfl) (.int .i64 0) [.int .i64 0, .int .i64 0, .int .i64 0] rfl).put 2 (zD rfl) (.int .i64 0) [.int .i64 0, .int .i64 0, .int .i64 0] rfl) 2 (zD rfl)
  refine bodyPost_ret (v := .agg #[.int .i64 0, .int .i64 0, .int .i64 0]) (by simp [results, Tryz.results178, go_sem, d0, d1, d2]) rfl ?_
  have hs : vUnitS bad p = ((0, 0, 0), true) := by unfold vUnitS; simp only [E1.out]; rw [if_pos (by have := Hhc1.out; omega)]
  rw [hs]
  exact ⟨rfl, (((f2.new _ _ (by omega) _).new _ _ (by omega) _).new _ _ (by omega) _), (((K2.new _ _ (by omega) _).new _ _ (by omega) _).new _ _ (by omega) _)⟩
 ·have Hhc1 : Hid (¬ r1.1 < 1048576) := hc1
  go_wp2_with fail
  refine wp_region_held_drew (S := fun w' => Arr w.heap.size [.int .i64 p.1, .int .i64 p.2.1, .int .i64 p.2.2] w') (by kernel_rfl) B0_1.drew (fun zH => ?_)
  refine zT 0 rfl (by kernel_rfl) (fun _ _ _ => id) rfl (fun _ _ => by go_simp <;> with_reducible rfl) zH ?_
  simp only [Act.put, zA, zB, zC]
  refine zT 1 rfl (by kernel_rfl) (fun _ _ _ => id) rfl (fun _ _ => by go_simp <;> with_reducible rfl) zH ?_
  simp only [Act.put, zA, zB, zC]
  refine zT 2 rfl (by kernel_rfl) (fun _ _ _ => id) rfl (fun wx hS => by have hc0 : wx.cell? ⟨w.heap.size, 0, none⟩ = some (.int .i64 p.1) := hS.c 0 (zD rfl); go_simp <;> with_reducible rfl) zH ?_
  simp only [Act.put, zA, zB, zC]
  refine zT 3 rfl (by kernel_rfl) (fun _ _ _ => id) rfl (fun _ _ => by go_simp <;> with_reducible rfl) zH ?_
  simp only [Act.put, zA, zB, zC]
  refine zT 5 rfl (by kernel_rfl) (fun _ _ _ => id) rfl (fun _ _ => by go_simp <;> with_reducible rfl) zH ?_
  simp only [Act.put, zA, zB, zC]
  refine zT 6 rfl (by kernel_rfl) (fun _ _ _ => id) rfl (fun _ _ => by go_simp <;> with_reducible rfl) zH ?_
  simp only [Act.put, zA, zB, zC]
  refine zT 7 rfl (by kernel_rfl) (fun _ _ _ => id) rfl (fun wx hS => by have hc1 : wx.cell? ⟨w.heap.size, 1, none⟩ = some (.int .i64 p.2.1) := hS.c 1 (zD rfl); go_simp <;> with_reducible rfl) zH ?_
  simp only [Act.put, zA, zB, zC]
  refine zT 8 rfl (by kernel_rfl) (fun _ _ _ => id) rfl (fun _ _ => by go_simp <;> with_reducible rfl) zH ?_
  simp only [Act.put, zA, zB, zC]
  refine zT 10 rfl (by kernel_rfl) (fun _ _ _ => id) rfl (fun _ _ => by go_simp <;> with_reducible rfl) zH ?_
  simp only [Act.put, zA, zB, zC]
  refine zT 11 rfl (by kernel_rfl) (fun _ _ _ => id) rfl (fun _ _ => by go_simp <;> with_reducible rfl) zH ?_
  simp only [Act.put, zA, zB, zC]
  refine zT 12 rfl (by kernel_rfl) (fun _ _ _ => id) rfl (fun wx hS => by have hc2 : wx.cell? ⟨w.heap.size, 2, none⟩ = some (.int .i64 p.2.2) := hS.c 2 (zD rfl); go_simp <;> with_reducible rfl) zH ?_
  simp only [Act.put, zA, zB, zC]
  refine zT 13 rfl (by kernel_rfl) (fun _ _ _ => id) rfl (fun _ _ => by go_simp <;> with_reducible rfl) zH ?_
  simp only [Act.put, zA, zB, zC]
  refine zK 4 (by kernel_rfl) rfl (fun K hK => ?_)
  go_simp
  refine (Div_any b r1.2 p.1 r1.1 _ f1.drew).mono ?_
  rintro e w2 ⟨rfl, f2, k2⟩
  generalize e2 : divS r1.2 p.1 r1.1 = r2 at f2 ⊢
  have E2 : Hid _ := e2
  clear e2
  have K2 : Kept b w w2 := Kept.trans K1.drew k2
  have B0_2 := B0_1.drew.kept k2 (by omega)
  have B1_2 := B1_1.drew.kept k2 (by omega)
  have z2 := B1_2.lies
  clear zH
  refine hK.out _ _ B0_2 (fun zH => ?_)
  clear hK K K1 f1 B0_1 B1_1 k2
  refine zK 9 (by kernel_rfl) rfl (fun K hK => ?_)
  go_simp
  refine (Div_any b r2.2 p.2.1 r1.1 _ f2).mono ?_
  rintro e w3 ⟨rfl, f3, k3⟩
  generalize e3 : divS r2.2 p.2.1 r1.1 = r3 at f3 ⊢
  have E3 : Hid _ := e3
  clear e3
  have K3 := Kept.trans K2 k3
  have B0_3 := B0_2.kept k3 (by omega)
  have B1_3 := B1_2.kept k3 (by omega)
  have z3 := B1_3.lies
  clear zH
  refine hK.out _ _ B0_3 (fun zH => ?_)
  clear hK K K2 f2 B0_2 B1_2 k3
  refine zK 14 (by kernel_rfl) rfl (fun K hK => ?_)
  go_simp
  refine (Div_any b r3.2 p.2.2 r1.1 _ f3).mono ?_
  rintro e w4 ⟨rfl, f4, k4⟩
  generalize e4 : divS r3.2 p.2.2 r1.1 = r4 at f4 ⊢
  have E4 : Hid _ := e4
  clear e4
  have K4 := Kept.trans K3 k4
  have B0_4 := B0_3.kept k4 (by omega)
  have B1_4 := B1_3.kept k4 (by omega)
  have z4 := B1_4.lies
  clear zH
  refine hK.out _ _ B0_4 (fun zH => ?_)
  clear hK K K3 f3 B0_3 B1_3 k4
  refine zT 15 rfl (by kernel_rfl) (fun _ _ _ => id) rfl (fun _ _ => by go_simp <;> with_reducible rfl) zH ?_
  simp only [Act.put, zA, zB, zC]
  refine zK 16 (by kernel_rfl) rfl (fun K hK => ?_)
  have c3_B1_0 : w4.cell? ⟨w.heap.size + 1, 0, none⟩ = some (.int .i64 0) := B1_4.c 0 (zD rfl)
  have c3_B1_1 : w4.cell? ⟨w.heap.size + 1, 1, none⟩ = some (.int .i64 0) := B1_4.c 1 (zD rfl)
  have c3_B1_2 : w4.cell? ⟨w.heap.size + 1, 2, none⟩ = some (.int .i64 0) := B1_4.c 2 (zD rfl)
  have g3_B1_0 := B1_4.f 0 (zD rfl)
  have g3_B1_1 := B1_4.f 1 (zD rfl)
  have g3_B1_2 := B1_4.f 2 (zD rfl)
  go_simp
  clear zH
  refine hK.out _ _ (((B0_4.new _ _ (by omega) _).new _ _ (by omega) _).new _ _ (by omega) _) (fun zH => ?_)
  clear hK K c3_B1_0 c3_B1_1 c3_B1_2 g3_B1_0 g3_B1_1 g3_B1_2
  refine wpAnyH_done (by kernel_rfl) ?_ _
  clear zH
  go_wp2
  have d0 := Arr.c (B1_4.put 0 (zD rfl) (.int .i64 r2.1) [.int .i64 r2.1, .int .i64 0, .int .i64 0] rfl) 0 (zD rfl)
  have d1 := Arr.c ((B1_4.put 0 (zD rfl) (.int .i64 r2.1) [.int .i64 r2.1, .int .i64 0, .int .i64 0] rfl).put 1 (zD rfl) (.int .i64 r3.1) [.int .i64 r2.1, .int .i64 r3.1, .int .i64 0] rfl) 1 (zD rfl)
  have d2 := Arr.c (((B1_4.put 0 (zD rfl) (.int .i64 r2.1) [.int .i64 r2.1, .int .i64 0, .int .i64 0] rfl).put 1 (zD rfl) (.int .i64 r3.1) [.int .i64 r2.1, .int .i64 r3.1, .int .i64 0] rfl).put 2 (zD rfl) (.int .i64 r4.1) [.int .i64 r2.1, .int .i64 r3.1, .int .i64 r4.1] rfl) 2 (zD rfl)
  refine bodyPost_ret (v := .agg #[.int .i64 r2.1, .int .i64 r3.1, .int .i64 r4.1]) (by simp [results, Tryz.results178, go_sem, d0, d1, d2]) rfl ?_
  have hs : vUnitS bad p = ((r2.1, r3.1, r4.1), r4.2) := by unfold vUnitS; simp only [E1.out, E2.out, E3.out, E4.out]; rw [if_neg (by have := Hhc1.out; omega)]
  rw [hs]
  exact ⟨rfl, (((f4.new _ _ (by omega) _).new _ _ (by omega) _).new _ _ (by omega) _), (((K4.new _ _ (by omega) _).new _ _ (by omega) _).new _ _ (by omega) _)⟩
end Go.Proofs.YtlpkfmfblglceaaGreatDoor
