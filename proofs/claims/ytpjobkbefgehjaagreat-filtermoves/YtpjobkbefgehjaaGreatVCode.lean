/-
  The walks of package vec, for the seat YtpjobkbefgehjaaGreat. (Made by mkvec.py.)
-/
import Derived.Test.YtpjobkbefgehjaaGreatJA
import Derived.Test.YtpjobkbefgehjaaGreatJC
import Derived.Test.YtpjobkbefgehjaaGreatJD
import Derived.Handy
import Derived.Deep.RegionHeld3
namespace Go.Proofs.YtpjobkbefgehjaaGreat
open Go.RowKit

set_option maxHeartbeats 400000 in
theorem sound_any (b : Nat) (bad : Bool) (v : V3) (w : World) (hw : Fl b bad w) :
  Calls Tryz.prog 109 #[.pointer (some ⟨b, 0, none⟩), .agg #[.int .i64 v.1, .int .i64 v.2.1, .int .i64 v.2.2]] w fun e w' => e = .returned (.agg #[.int .i64 (soundS bad v).1.1, .int .i64 (soundS bad v).1.2.1, .int .i64 (soundS bad v).1.2.2]) ∧ Fl b (soundS bad v).2 w' ∧ Kept b w w' := by
 have hc := hw.cell
 have hl := hw.lies
 have HW : Hid _ := hw
 clear hw
 cases bad
 ·go_enter Tryz.func109, Tryz.ntmps109
  go_wp2
  refine bodyPost_ret (v := .agg #[.int .i64 v.1, .int .i64 v.2.1, .int .i64 v.2.2]) (by simp [results, Tryz.results109, go_sem]) rfl ?_
  exact ⟨rfl, (HW.out.alloc _).alloc _, ((Kept.refl _ _).al _).al _⟩
 ·go_enter Tryz.func109, Tryz.ntmps109
  go_wp2
  refine bodyPost_ret (v := .agg #[.int .i64 0, .int .i64 0, .int .i64 0]) (by simp [results, Tryz.results109, go_sem]) rfl ?_
  exact ⟨rfl, (HW.out.alloc _).alloc _, ((Kept.refl _ _).al _).al _⟩

set_option maxRecDepth 100000 in
set_option maxHeartbeats 2000000 in
theorem vAdd_any (b : Nat) (bad : Bool) (p : V3) (q : V3) (w : World) (hw : Fl b bad w) :
  Calls Tryz.prog 75 #[.pointer (some ⟨b, 0, none⟩), .agg #[.int .i64 p.1, .int .i64 p.2.1, .int .i64 p.2.2], .agg #[.int .i64 q.1, .int .i64 q.2.1, .int .i64 q.2.2]] w fun e w' => e = .returned (.agg #[.int .i64 ((vAddS bad p q).1.1), .int .i64 ((vAddS bad p q).1.2.1), .int .i64 ((vAddS bad p q).1.2.2)]) ∧ Fl b (vAddS bad p q).2 w' ∧ Kept b w w' := by
 have hl := hw.lies
 go_enter Tryz.func75, Tryz.ntmps75
 go_wp2_with fail
 refine wp_region_held_drew (S := fun w' => Arr w.heap.size [.int .i64 p.1, .int .i64 p.2.1, .int .i64 p.2.2] w' ∧ Arr (w.heap.size + 1) [.int .i64 q.1, .int .i64 q.2.1, .int .i64 q.2.2] w') (by kernel_rfl) ⟨(((Arr_at _ _ [.int .i64 p.1, .int .i64 p.2.1, .int .i64 p.2.2] _ (by simp)).alloc _).alloc _).drew, ((Arr_at _ _ [.int .i64 q.1, .int .i64 q.2.1, .int .i64 q.2.2] _ (by simp)).alloc _).drew⟩ (fun hHeld => ?_)
 refine zT (i := 0) (v := ?v1) rfl (by kernel_rfl) (fun _ _ _ h => h) (by rfl) ?y1 hHeld ?t1
 case y1 => (intro wx hSw; go_simp <;> with_reducible rfl)
 simp only [Act.put, zA, zB, zC]
 refine zT (i := 1) (v := ?v2) rfl (by kernel_rfl) (fun _ _ _ h => h) (by rfl) ?y2 hHeld ?t2
 case y2 => (intro wx hSw; go_simp <;> with_reducible rfl)
 simp only [Act.put, zA, zB, zC]
 refine zT (i := 2) (v := ?v3) rfl (by kernel_rfl) (fun _ _ _ h => h) (by rfl) ?y3 hHeld ?t3
 case y3 => (intro wx hSw; go_simp <;> with_reducible rfl)
 simp only [Act.put, zA, zB, zC]
 refine zT (i := 3) (v := ?v4) rfl (by kernel_rfl) (fun _ _ _ h => h) (by rfl) ?y4 hHeld ?t4
 case y4 => (intro wx hSw; have hc0 : wx.cell? ⟨w.heap.size, 0, none⟩ = some (.int .i64 p.1) := hSw.1.c 0 (zD rfl); go_simp <;> with_reducible rfl)
 simp only [Act.put, zA, zB, zC]
 refine zT (i := 4) (v := ?v5) rfl (by kernel_rfl) (fun _ _ _ h => h) (by rfl) ?y5 hHeld ?t5
 case y5 => (intro wx hSw; go_simp <;> with_reducible rfl)
 simp only [Act.put, zA, zB, zC]
 refine zT (i := 5) (v := ?v6) rfl (by kernel_rfl) (fun _ _ _ h => h) (by rfl) ?y6 hHeld ?t6
 case y6 => (intro wx hSw; have hc0 : wx.cell? ⟨w.heap.size + 1, 0, none⟩ = some (.int .i64 q.1) := hSw.2.c 0 (zD rfl); go_simp <;> with_reducible rfl)
 simp only [Act.put, zA, zB, zC]
 refine zT (i := 7) (v := ?v7) rfl (by kernel_rfl) (fun _ _ _ h => h) (by rfl) ?y7 hHeld ?t7
 case y7 => (intro wx hSw; go_simp <;> with_reducible rfl)
 simp only [Act.put, zA, zB, zC]
 refine zT (i := 8) (v := ?v8) rfl (by kernel_rfl) (fun _ _ _ h => h) (by rfl) ?y8 hHeld ?t8
 case y8 => (intro wx hSw; go_simp <;> with_reducible rfl)
 simp only [Act.put, zA, zB, zC]
 refine zT (i := 9) (v := ?v9) rfl (by kernel_rfl) (fun _ _ _ h => h) (by rfl) ?y9 hHeld ?t9
 case y9 => (intro wx hSw; have hc1 : wx.cell? ⟨w.heap.size, 1, none⟩ = some (.int .i64 p.2.1) := hSw.1.c 1 (zD rfl); go_simp <;> with_reducible rfl)
 simp only [Act.put, zA, zB, zC]
 refine zT (i := 10) (v := ?v10) rfl (by kernel_rfl) (fun _ _ _ h => h) (by rfl) ?y10 hHeld ?t10
 case y10 => (intro wx hSw; go_simp <;> with_reducible rfl)
 simp only [Act.put, zA, zB, zC]
 refine zT (i := 11) (v := ?v11) rfl (by kernel_rfl) (fun _ _ _ h => h) (by rfl) ?y11 hHeld ?t11
 case y11 => (intro wx hSw; have hc1 : wx.cell? ⟨w.heap.size + 1, 1, none⟩ = some (.int .i64 q.2.1) := hSw.2.c 1 (zD rfl); go_simp <;> with_reducible rfl)
 simp only [Act.put, zA, zB, zC]
 refine zT (i := 13) (v := ?v12) rfl (by kernel_rfl) (fun _ _ _ h => h) (by rfl) ?y12 hHeld ?t12
 case y12 => (intro wx hSw; go_simp <;> with_reducible rfl)
 simp only [Act.put, zA, zB, zC]
 refine zT (i := 14) (v := ?v13) rfl (by kernel_rfl) (fun _ _ _ h => h) (by rfl) ?y13 hHeld ?t13
 case y13 => (intro wx hSw; go_simp <;> with_reducible rfl)
 simp only [Act.put, zA, zB, zC]
 refine zT (i := 15) (v := ?v14) rfl (by kernel_rfl) (fun _ _ _ h => h) (by rfl) ?y14 hHeld ?t14
 case y14 => (intro wx hSw; have hc2 : wx.cell? ⟨w.heap.size, 2, none⟩ = some (.int .i64 p.2.2) := hSw.1.c 2 (zD rfl); go_simp <;> with_reducible rfl)
 simp only [Act.put, zA, zB, zC]
 refine zT (i := 16) (v := ?v15) rfl (by kernel_rfl) (fun _ _ _ h => h) (by rfl) ?y15 hHeld ?t15
 case y15 => (intro wx hSw; go_simp <;> with_reducible rfl)
 simp only [Act.put, zA, zB, zC]
 refine zT (i := 17) (v := ?v16) rfl (by kernel_rfl) (fun _ _ _ h => h) (by rfl) ?y16 hHeld ?t16
 case y16 => (intro wx hSw; have hc2 : wx.cell? ⟨w.heap.size + 1, 2, none⟩ = some (.int .i64 q.2.2) := hSw.2.c 2 (zD rfl); go_simp <;> with_reducible rfl)
 simp only [Act.put, zA, zB, zC]
 refine call_at (i := 6) (by kernel_rfl) rfl (fun K hK => ?_)
 go_simp
 refine (Add_any b bad p.1 q.1 _ (((hw.alloc _).alloc _).alloc _).drew).mono ?_
 rintro e w1 ⟨rfl, f1, k1⟩
 generalize e1 : addS bad p.1 q.1 = r1 at f1 ⊢
 have E1 : Hid _ := e1
 clear e1
 have K1 : Kept b w w1 := Kept.trans ((((Kept.refl b w).al _).al _).al _).drew k1
 have B0_1 : Arr w.heap.size [.int .i64 p.1, .int .i64 p.2.1, .int .i64 p.2.2] w1 := (((Arr_at _ _ [.int .i64 p.1, .int .i64 p.2.1, .int .i64 p.2.2] _ (by simp)).alloc _).alloc _).drew.kept k1 (by omega)
 have B1_1 : Arr (w.heap.size + 1) [.int .i64 q.1, .int .i64 q.2.1, .int .i64 q.2.2] w1 := ((Arr_at _ _ [.int .i64 q.1, .int .i64 q.2.1, .int .i64 q.2.2] _ (by simp)).alloc _).drew.kept k1 (by omega)
 have B2_1 : Arr (w.heap.size + 1 + 1) [.int .i64 0, .int .i64 0, .int .i64 0] w1 := (Arr_at _ _ [.int .i64 0, .int .i64 0, .int .i64 0] _ (by simp)).drew.kept k1 (by omega)
 have z1 := B2_1.lies
 clear hHeld
 refine hK.out _ _ ⟨B0_1, B1_1⟩ (fun hHeld => ?_)
 clear hK K k1
 refine call_at (i := 12) (by kernel_rfl) rfl (fun K hK => ?_)
 go_simp
 refine (Add_any b r1.2 p.2.1 q.2.1 _ f1).mono ?_
 rintro e w2 ⟨rfl, f2, k2⟩
 generalize e2 : addS r1.2 p.2.1 q.2.1 = r2 at f2 ⊢
 have E2 : Hid _ := e2
 clear e2
 have K2 := Kept.trans K1 k2
 have B0_2 : Arr w.heap.size [.int .i64 p.1, .int .i64 p.2.1, .int .i64 p.2.2] w2 := B0_1.kept k2 (by omega)
 have B1_2 : Arr (w.heap.size + 1) [.int .i64 q.1, .int .i64 q.2.1, .int .i64 q.2.2] w2 := B1_1.kept k2 (by omega)
 have B2_2 : Arr (w.heap.size + 1 + 1) [.int .i64 0, .int .i64 0, .int .i64 0] w2 := B2_1.kept k2 (by omega)
 have z2 := B2_2.lies
 clear hHeld
 refine hK.out _ _ ⟨B0_2, B1_2⟩ (fun hHeld => ?_)
 clear hK K K1 f1 B0_1 B1_1 B2_1 k2
 refine call_at (i := 18) (by kernel_rfl) rfl (fun K hK => ?_)
 go_simp
 refine (Add_any b r2.2 p.2.2 q.2.2 _ f2).mono ?_
 rintro e w3 ⟨rfl, f3, k3⟩
 generalize e3 : addS r2.2 p.2.2 q.2.2 = r3 at f3 ⊢
 have E3 : Hid _ := e3
 clear e3
 have K3 := Kept.trans K2 k3
 have B0_3 : Arr w.heap.size [.int .i64 p.1, .int .i64 p.2.1, .int .i64 p.2.2] w3 := B0_2.kept k3 (by omega)
 have B1_3 : Arr (w.heap.size + 1) [.int .i64 q.1, .int .i64 q.2.1, .int .i64 q.2.2] w3 := B1_2.kept k3 (by omega)
 have B2_3 : Arr (w.heap.size + 1 + 1) [.int .i64 0, .int .i64 0, .int .i64 0] w3 := B2_2.kept k3 (by omega)
 have z3 := B2_3.lies
 clear hHeld
 refine hK.out _ _ ⟨B0_3, B1_3⟩ (fun hHeld => ?_)
 clear hK K K2 f2 B0_2 B1_2 B2_2 k3
 refine zT (i := 19) (v := ?v17) rfl (by kernel_rfl) (fun _ _ _ h => h) (by rfl) ?y17 hHeld ?t17
 case y17 => (intro wx hSw; go_simp <;> with_reducible rfl)
 simp only [Act.put, zA, zB, zC]
 refine call_at (i := 20) (by kernel_rfl) rfl (fun K hK => ?_)
 go_simp
 refine (sound_any b r3.2 (r1.1, r2.1, r3.1) _ f3).mono ?_
 rintro e w4 ⟨rfl, f4, k4⟩
 generalize e4 : soundS r3.2 (r1.1, r2.1, r3.1) = r4 at f4 ⊢
 have E4 : Hid _ := e4
 clear e4
 have K4 := Kept.trans K3 k4
 have B0_4 : Arr w.heap.size [.int .i64 p.1, .int .i64 p.2.1, .int .i64 p.2.2] w4 := B0_3.kept k4 (by omega)
 have B1_4 : Arr (w.heap.size + 1) [.int .i64 q.1, .int .i64 q.2.1, .int .i64 q.2.2] w4 := B1_3.kept k4 (by omega)
 have B2_4 : Arr (w.heap.size + 1 + 1) [.int .i64 0, .int .i64 0, .int .i64 0] w4 := B2_3.kept k4 (by omega)
 have z4 := B2_4.lies
 clear hHeld
 refine hK.out _ _ ⟨B0_4, B1_4⟩ (fun hHeld => ?_)
 clear hK K K3 f3 B0_3 B1_3 B2_3 k4
 refine call_at (i := 21) (by kernel_rfl) rfl (fun K hK => ?_)
 have c2_B2_0 : w4.cell? ⟨w.heap.size + 1 + 1, 0, none⟩ = some (.int .i64 0) := B2_4.c 0 (zD rfl)
 have c2_B2_1 : w4.cell? ⟨w.heap.size + 1 + 1, 1, none⟩ = some (.int .i64 0) := B2_4.c 1 (zD rfl)
 have c2_B2_2 : w4.cell? ⟨w.heap.size + 1 + 1, 2, none⟩ = some (.int .i64 0) := B2_4.c 2 (zD rfl)
 have g2_B2_0 := B2_4.f 0 (zD rfl)
 have g2_B2_1 := B2_4.f 1 (zD rfl)
 have g2_B2_2 := B2_4.f 2 (zD rfl)
 go_simp
 clear hHeld
 refine hK.out _ _ ⟨(((B0_4.new _ _ (by omega) _).new _ _ (by omega) _).new _ _ (by omega) _), (((B1_4.new _ _ (by omega) _).new _ _ (by omega) _).new _ _ (by omega) _)⟩ (fun hHeld => ?_)
 clear hK K c2_B2_0 c2_B2_1 c2_B2_2 g2_B2_0 g2_B2_1 g2_B2_2
 refine wpAnyH_done (by kernel_rfl) ?_ _
 clear hHeld
 go_wp2
 have d0 := Arr.c (B2_4.put 0 (zD rfl) (.int .i64 r4.1.1) [.int .i64 r4.1.1, .int .i64 0, .int .i64 0] rfl) 0 (zD rfl)
 have d1 := Arr.c ((B2_4.put 0 (zD rfl) (.int .i64 r4.1.1) [.int .i64 r4.1.1, .int .i64 0, .int .i64 0] rfl).put 1 (zD rfl) (.int .i64 r4.1.2.1) [.int .i64 r4.1.1, .int .i64 r4.1.2.1, .int .i64 0] rfl) 1 (zD rfl)
 have d2 := Arr.c (((B2_4.put 0 (zD rfl) (.int .i64 r4.1.1) [.int .i64 r4.1.1, .int .i64 0, .int .i64 0] rfl).put 1 (zD rfl) (.int .i64 r4.1.2.1) [.int .i64 r4.1.1, .int .i64 r4.1.2.1, .int .i64 0] rfl).put 2 (zD rfl) (.int .i64 r4.1.2.2) [.int .i64 r4.1.1, .int .i64 r4.1.2.1, .int .i64 r4.1.2.2] rfl) 2 (zD rfl)
 refine bodyPost_ret (v := .agg #[.int .i64 r4.1.1, .int .i64 r4.1.2.1, .int .i64 r4.1.2.2]) (by simp [results, Tryz.results75, go_sem, d0, d1, d2]) rfl ?_
 have hs : vAddS bad p q = (r4.1, r4.2) := by unfold vAddS; simp only [E1.out, E2.out, E3.out, E4.out]
 rw [hs]
 exact ⟨rfl, (((f4.new _ _ (by omega) _).new _ _ (by omega) _).new _ _ (by omega) _), (((K4.new _ _ (by omega) _).new _ _ (by omega) _).new _ _ (by omega) _)⟩
set_option maxRecDepth 100000 in
set_option maxHeartbeats 2000000 in
theorem vSub_any (b : Nat) (bad : Bool) (p : V3) (q : V3) (w : World) (hw : Fl b bad w) :
  Calls Tryz.prog 63 #[.pointer (some ⟨b, 0, none⟩), .agg #[.int .i64 p.1, .int .i64 p.2.1, .int .i64 p.2.2], .agg #[.int .i64 q.1, .int .i64 q.2.1, .int .i64 q.2.2]] w fun e w' => e = .returned (.agg #[.int .i64 ((vSubS bad p q).1.1), .int .i64 ((vSubS bad p q).1.2.1), .int .i64 ((vSubS bad p q).1.2.2)]) ∧ Fl b (vSubS bad p q).2 w' ∧ Kept b w w' := by
 have hl := hw.lies
 go_enter Tryz.func63, Tryz.ntmps63
 go_wp2_with fail
 refine wp_region_held_drew (S := fun w' => Arr w.heap.size [.int .i64 p.1, .int .i64 p.2.1, .int .i64 p.2.2] w' ∧ Arr (w.heap.size + 1) [.int .i64 q.1, .int .i64 q.2.1, .int .i64 q.2.2] w') (by kernel_rfl) ⟨(((Arr_at _ _ [.int .i64 p.1, .int .i64 p.2.1, .int .i64 p.2.2] _ (by simp)).alloc _).alloc _).drew, ((Arr_at _ _ [.int .i64 q.1, .int .i64 q.2.1, .int .i64 q.2.2] _ (by simp)).alloc _).drew⟩ (fun hHeld => ?_)
 refine zT (i := 0) (v := ?v18) rfl (by kernel_rfl) (fun _ _ _ h => h) (by rfl) ?y18 hHeld ?t18
 case y18 => (intro wx hSw; go_simp <;> with_reducible rfl)
 simp only [Act.put, zA, zB, zC]
 refine zT (i := 1) (v := ?v19) rfl (by kernel_rfl) (fun _ _ _ h => h) (by rfl) ?y19 hHeld ?t19
 case y19 => (intro wx hSw; go_simp <;> with_reducible rfl)
 simp only [Act.put, zA, zB, zC]
 refine zT (i := 2) (v := ?v20) rfl (by kernel_rfl) (fun _ _ _ h => h) (by rfl) ?y20 hHeld ?t20
 case y20 => (intro wx hSw; go_simp <;> with_reducible rfl)
 simp only [Act.put, zA, zB, zC]
 refine zT (i := 3) (v := ?v21) rfl (by kernel_rfl) (fun _ _ _ h => h) (by rfl) ?y21 hHeld ?t21
 case y21 => (intro wx hSw; have hc0 : wx.cell? ⟨w.heap.size, 0, none⟩ = some (.int .i64 p.1) := hSw.1.c 0 (zD rfl); go_simp <;> with_reducible rfl)
 simp only [Act.put, zA, zB, zC]
 refine zT (i := 4) (v := ?v22) rfl (by kernel_rfl) (fun _ _ _ h => h) (by rfl) ?y22 hHeld ?t22
 case y22 => (intro wx hSw; go_simp <;> with_reducible rfl)
 simp only [Act.put, zA, zB, zC]
 refine zT (i := 5) (v := ?v23) rfl (by kernel_rfl) (fun _ _ _ h => h) (by rfl) ?y23 hHeld ?t23
 case y23 => (intro wx hSw; have hc0 : wx.cell? ⟨w.heap.size + 1, 0, none⟩ = some (.int .i64 q.1) := hSw.2.c 0 (zD rfl); go_simp <;> with_reducible rfl)
 simp only [Act.put, zA, zB, zC]
 refine zT (i := 7) (v := ?v24) rfl (by kernel_rfl) (fun _ _ _ h => h) (by rfl) ?y24 hHeld ?t24
 case y24 => (intro wx hSw; go_simp <;> with_reducible rfl)
 simp only [Act.put, zA, zB, zC]
 refine zT (i := 8) (v := ?v25) rfl (by kernel_rfl) (fun _ _ _ h => h) (by rfl) ?y25 hHeld ?t25
 case y25 => (intro wx hSw; go_simp <;> with_reducible rfl)
 simp only [Act.put, zA, zB, zC]
 refine zT (i := 9) (v := ?v26) rfl (by kernel_rfl) (fun _ _ _ h => h) (by rfl) ?y26 hHeld ?t26
 case y26 => (intro wx hSw; have hc1 : wx.cell? ⟨w.heap.size, 1, none⟩ = some (.int .i64 p.2.1) := hSw.1.c 1 (zD rfl); go_simp <;> with_reducible rfl)
 simp only [Act.put, zA, zB, zC]
 refine zT (i := 10) (v := ?v27) rfl (by kernel_rfl) (fun _ _ _ h => h) (by rfl) ?y27 hHeld ?t27
 case y27 => (intro wx hSw; go_simp <;> with_reducible rfl)
 simp only [Act.put, zA, zB, zC]
 refine zT (i := 11) (v := ?v28) rfl (by kernel_rfl) (fun _ _ _ h => h) (by rfl) ?y28 hHeld ?t28
 case y28 => (intro wx hSw; have hc1 : wx.cell? ⟨w.heap.size + 1, 1, none⟩ = some (.int .i64 q.2.1) := hSw.2.c 1 (zD rfl); go_simp <;> with_reducible rfl)
 simp only [Act.put, zA, zB, zC]
 refine zT (i := 13) (v := ?v29) rfl (by kernel_rfl) (fun _ _ _ h => h) (by rfl) ?y29 hHeld ?t29
 case y29 => (intro wx hSw; go_simp <;> with_reducible rfl)
 simp only [Act.put, zA, zB, zC]
 refine zT (i := 14) (v := ?v30) rfl (by kernel_rfl) (fun _ _ _ h => h) (by rfl) ?y30 hHeld ?t30
 case y30 => (intro wx hSw; go_simp <;> with_reducible rfl)
 simp only [Act.put, zA, zB, zC]
 refine zT (i := 15) (v := ?v31) rfl (by kernel_rfl) (fun _ _ _ h => h) (by rfl) ?y31 hHeld ?t31
 case y31 => (intro wx hSw; have hc2 : wx.cell? ⟨w.heap.size, 2, none⟩ = some (.int .i64 p.2.2) := hSw.1.c 2 (zD rfl); go_simp <;> with_reducible rfl)
 simp only [Act.put, zA, zB, zC]
 refine zT (i := 16) (v := ?v32) rfl (by kernel_rfl) (fun _ _ _ h => h) (by rfl) ?y32 hHeld ?t32
 case y32 => (intro wx hSw; go_simp <;> with_reducible rfl)
 simp only [Act.put, zA, zB, zC]
 refine zT (i := 17) (v := ?v33) rfl (by kernel_rfl) (fun _ _ _ h => h) (by rfl) ?y33 hHeld ?t33
 case y33 => (intro wx hSw; have hc2 : wx.cell? ⟨w.heap.size + 1, 2, none⟩ = some (.int .i64 q.2.2) := hSw.2.c 2 (zD rfl); go_simp <;> with_reducible rfl)
 simp only [Act.put, zA, zB, zC]
 refine call_at (i := 6) (by kernel_rfl) rfl (fun K hK => ?_)
 go_simp
 refine (Sub_any b bad p.1 q.1 _ (((hw.alloc _).alloc _).alloc _).drew).mono ?_
 rintro e w1 ⟨rfl, f1, k1⟩
 generalize e1 : subS bad p.1 q.1 = r1 at f1 ⊢
 have E1 : Hid _ := e1
 clear e1
 have K1 : Kept b w w1 := Kept.trans ((((Kept.refl b w).al _).al _).al _).drew k1
 have B0_1 : Arr w.heap.size [.int .i64 p.1, .int .i64 p.2.1, .int .i64 p.2.2] w1 := (((Arr_at _ _ [.int .i64 p.1, .int .i64 p.2.1, .int .i64 p.2.2] _ (by simp)).alloc _).alloc _).drew.kept k1 (by omega)
 have B1_1 : Arr (w.heap.size + 1) [.int .i64 q.1, .int .i64 q.2.1, .int .i64 q.2.2] w1 := ((Arr_at _ _ [.int .i64 q.1, .int .i64 q.2.1, .int .i64 q.2.2] _ (by simp)).alloc _).drew.kept k1 (by omega)
 have B2_1 : Arr (w.heap.size + 1 + 1) [.int .i64 0, .int .i64 0, .int .i64 0] w1 := (Arr_at _ _ [.int .i64 0, .int .i64 0, .int .i64 0] _ (by simp)).drew.kept k1 (by omega)
 have z1 := B2_1.lies
 clear hHeld
 refine hK.out _ _ ⟨B0_1, B1_1⟩ (fun hHeld => ?_)
 clear hK K k1
 refine call_at (i := 12) (by kernel_rfl) rfl (fun K hK => ?_)
 go_simp
 refine (Sub_any b r1.2 p.2.1 q.2.1 _ f1).mono ?_
 rintro e w2 ⟨rfl, f2, k2⟩
 generalize e2 : subS r1.2 p.2.1 q.2.1 = r2 at f2 ⊢
 have E2 : Hid _ := e2
 clear e2
 have K2 := Kept.trans K1 k2
 have B0_2 : Arr w.heap.size [.int .i64 p.1, .int .i64 p.2.1, .int .i64 p.2.2] w2 := B0_1.kept k2 (by omega)
 have B1_2 : Arr (w.heap.size + 1) [.int .i64 q.1, .int .i64 q.2.1, .int .i64 q.2.2] w2 := B1_1.kept k2 (by omega)
 have B2_2 : Arr (w.heap.size + 1 + 1) [.int .i64 0, .int .i64 0, .int .i64 0] w2 := B2_1.kept k2 (by omega)
 have z2 := B2_2.lies
 clear hHeld
 refine hK.out _ _ ⟨B0_2, B1_2⟩ (fun hHeld => ?_)
 clear hK K K1 f1 B0_1 B1_1 B2_1 k2
 refine call_at (i := 18) (by kernel_rfl) rfl (fun K hK => ?_)
 go_simp
 refine (Sub_any b r2.2 p.2.2 q.2.2 _ f2).mono ?_
 rintro e w3 ⟨rfl, f3, k3⟩
 generalize e3 : subS r2.2 p.2.2 q.2.2 = r3 at f3 ⊢
 have E3 : Hid _ := e3
 clear e3
 have K3 := Kept.trans K2 k3
 have B0_3 : Arr w.heap.size [.int .i64 p.1, .int .i64 p.2.1, .int .i64 p.2.2] w3 := B0_2.kept k3 (by omega)
 have B1_3 : Arr (w.heap.size + 1) [.int .i64 q.1, .int .i64 q.2.1, .int .i64 q.2.2] w3 := B1_2.kept k3 (by omega)
 have B2_3 : Arr (w.heap.size + 1 + 1) [.int .i64 0, .int .i64 0, .int .i64 0] w3 := B2_2.kept k3 (by omega)
 have z3 := B2_3.lies
 clear hHeld
 refine hK.out _ _ ⟨B0_3, B1_3⟩ (fun hHeld => ?_)
 clear hK K K2 f2 B0_2 B1_2 B2_2 k3
 refine zT (i := 19) (v := ?v34) rfl (by kernel_rfl) (fun _ _ _ h => h) (by rfl) ?y34 hHeld ?t34
 case y34 => (intro wx hSw; go_simp <;> with_reducible rfl)
 simp only [Act.put, zA, zB, zC]
 refine call_at (i := 20) (by kernel_rfl) rfl (fun K hK => ?_)
 go_simp
 refine (sound_any b r3.2 (r1.1, r2.1, r3.1) _ f3).mono ?_
 rintro e w4 ⟨rfl, f4, k4⟩
 generalize e4 : soundS r3.2 (r1.1, r2.1, r3.1) = r4 at f4 ⊢
 have E4 : Hid _ := e4
 clear e4
 have K4 := Kept.trans K3 k4
 have B0_4 : Arr w.heap.size [.int .i64 p.1, .int .i64 p.2.1, .int .i64 p.2.2] w4 := B0_3.kept k4 (by omega)
 have B1_4 : Arr (w.heap.size + 1) [.int .i64 q.1, .int .i64 q.2.1, .int .i64 q.2.2] w4 := B1_3.kept k4 (by omega)
 have B2_4 : Arr (w.heap.size + 1 + 1) [.int .i64 0, .int .i64 0, .int .i64 0] w4 := B2_3.kept k4 (by omega)
 have z4 := B2_4.lies
 clear hHeld
 refine hK.out _ _ ⟨B0_4, B1_4⟩ (fun hHeld => ?_)
 clear hK K K3 f3 B0_3 B1_3 B2_3 k4
 refine call_at (i := 21) (by kernel_rfl) rfl (fun K hK => ?_)
 have c2_B2_0 : w4.cell? ⟨w.heap.size + 1 + 1, 0, none⟩ = some (.int .i64 0) := B2_4.c 0 (zD rfl)
 have c2_B2_1 : w4.cell? ⟨w.heap.size + 1 + 1, 1, none⟩ = some (.int .i64 0) := B2_4.c 1 (zD rfl)
 have c2_B2_2 : w4.cell? ⟨w.heap.size + 1 + 1, 2, none⟩ = some (.int .i64 0) := B2_4.c 2 (zD rfl)
 have g2_B2_0 := B2_4.f 0 (zD rfl)
 have g2_B2_1 := B2_4.f 1 (zD rfl)
 have g2_B2_2 := B2_4.f 2 (zD rfl)
 go_simp
 clear hHeld
 refine hK.out _ _ ⟨(((B0_4.new _ _ (by omega) _).new _ _ (by omega) _).new _ _ (by omega) _), (((B1_4.new _ _ (by omega) _).new _ _ (by omega) _).new _ _ (by omega) _)⟩ (fun hHeld => ?_)
 clear hK K c2_B2_0 c2_B2_1 c2_B2_2 g2_B2_0 g2_B2_1 g2_B2_2
 refine wpAnyH_done (by kernel_rfl) ?_ _
 clear hHeld
 go_wp2
 have d0 := Arr.c (B2_4.put 0 (zD rfl) (.int .i64 r4.1.1) [.int .i64 r4.1.1, .int .i64 0, .int .i64 0] rfl) 0 (zD rfl)
 have d1 := Arr.c ((B2_4.put 0 (zD rfl) (.int .i64 r4.1.1) [.int .i64 r4.1.1, .int .i64 0, .int .i64 0] rfl).put 1 (zD rfl) (.int .i64 r4.1.2.1) [.int .i64 r4.1.1, .int .i64 r4.1.2.1, .int .i64 0] rfl) 1 (zD rfl)
 have d2 := Arr.c (((B2_4.put 0 (zD rfl) (.int .i64 r4.1.1) [.int .i64 r4.1.1, .int .i64 0, .int .i64 0] rfl).put 1 (zD rfl) (.int .i64 r4.1.2.1) [.int .i64 r4.1.1, .int .i64 r4.1.2.1, .int .i64 0] rfl).put 2 (zD rfl) (.int .i64 r4.1.2.2) [.int .i64 r4.1.1, .int .i64 r4.1.2.1, .int .i64 r4.1.2.2] rfl) 2 (zD rfl)
 refine bodyPost_ret (v := .agg #[.int .i64 r4.1.1, .int .i64 r4.1.2.1, .int .i64 r4.1.2.2]) (by simp [results, Tryz.results63, go_sem, d0, d1, d2]) rfl ?_
 have hs : vSubS bad p q = (r4.1, r4.2) := by unfold vSubS; simp only [E1.out, E2.out, E3.out, E4.out]
 rw [hs]
 exact ⟨rfl, (((f4.new _ _ (by omega) _).new _ _ (by omega) _).new _ _ (by omega) _), (((K4.new _ _ (by omega) _).new _ _ (by omega) _).new _ _ (by omega) _)⟩
set_option maxRecDepth 100000 in
set_option maxHeartbeats 2000000 in
theorem vScale_any (b : Nat) (bad : Bool) (p : V3) (k : Int) (w : World) (hw : Fl b bad w) :
  Calls Tryz.prog 110 #[.pointer (some ⟨b, 0, none⟩), .agg #[.int .i64 p.1, .int .i64 p.2.1, .int .i64 p.2.2], .int .i64 k] w fun e w' => e = .returned (.agg #[.int .i64 ((vScaleS bad p k).1.1), .int .i64 ((vScaleS bad p k).1.2.1), .int .i64 ((vScaleS bad p k).1.2.2)]) ∧ Fl b (vScaleS bad p k).2 w' ∧ Kept b w w' := by
 have hl := hw.lies
 go_enter Tryz.func110, Tryz.ntmps110
 go_wp2_with fail
 refine wp_region_held_drew (S := fun w' => Arr w.heap.size [.int .i64 p.1, .int .i64 p.2.1, .int .i64 p.2.2] w') (by kernel_rfl) ((Arr_at _ _ [.int .i64 p.1, .int .i64 p.2.1, .int .i64 p.2.2] _ (by simp)).alloc _).drew (fun hHeld => ?_)
 refine zT (i := 0) (v := ?v35) rfl (by kernel_rfl) (fun _ _ _ h => h) (by rfl) ?y35 hHeld ?t35
 case y35 => (intro wx hSw; go_simp <;> with_reducible rfl)
 simp only [Act.put, zA, zB, zC]
 refine zT (i := 1) (v := ?v36) rfl (by kernel_rfl) (fun _ _ _ h => h) (by rfl) ?y36 hHeld ?t36
 case y36 => (intro wx hSw; go_simp <;> with_reducible rfl)
 simp only [Act.put, zA, zB, zC]
 refine zT (i := 2) (v := ?v37) rfl (by kernel_rfl) (fun _ _ _ h => h) (by rfl) ?y37 hHeld ?t37
 case y37 => (intro wx hSw; go_simp <;> with_reducible rfl)
 simp only [Act.put, zA, zB, zC]
 refine zT (i := 3) (v := ?v38) rfl (by kernel_rfl) (fun _ _ _ h => h) (by rfl) ?y38 hHeld ?t38
 case y38 => (intro wx hSw; have hc0 : wx.cell? ⟨w.heap.size, 0, none⟩ = some (.int .i64 p.1) := hSw.c 0 (zD rfl); go_simp <;> with_reducible rfl)
 simp only [Act.put, zA, zB, zC]
 refine zT (i := 4) (v := ?v39) rfl (by kernel_rfl) (fun _ _ _ h => h) (by rfl) ?y39 hHeld ?t39
 case y39 => (intro wx hSw; go_simp <;> with_reducible rfl)
 simp only [Act.put, zA, zB, zC]
 refine zT (i := 6) (v := ?v40) rfl (by kernel_rfl) (fun _ _ _ h => h) (by rfl) ?y40 hHeld ?t40
 case y40 => (intro wx hSw; go_simp <;> with_reducible rfl)
 simp only [Act.put, zA, zB, zC]
 refine zT (i := 7) (v := ?v41) rfl (by kernel_rfl) (fun _ _ _ h => h) (by rfl) ?y41 hHeld ?t41
 case y41 => (intro wx hSw; go_simp <;> with_reducible rfl)
 simp only [Act.put, zA, zB, zC]
 refine zT (i := 8) (v := ?v42) rfl (by kernel_rfl) (fun _ _ _ h => h) (by rfl) ?y42 hHeld ?t42
 case y42 => (intro wx hSw; have hc1 : wx.cell? ⟨w.heap.size, 1, none⟩ = some (.int .i64 p.2.1) := hSw.c 1 (zD rfl); go_simp <;> with_reducible rfl)
 simp only [Act.put, zA, zB, zC]
 refine zT (i := 9) (v := ?v43) rfl (by kernel_rfl) (fun _ _ _ h => h) (by rfl) ?y43 hHeld ?t43
 case y43 => (intro wx hSw; go_simp <;> with_reducible rfl)
 simp only [Act.put, zA, zB, zC]
 refine zT (i := 11) (v := ?v44) rfl (by kernel_rfl) (fun _ _ _ h => h) (by rfl) ?y44 hHeld ?t44
 case y44 => (intro wx hSw; go_simp <;> with_reducible rfl)
 simp only [Act.put, zA, zB, zC]
 refine zT (i := 12) (v := ?v45) rfl (by kernel_rfl) (fun _ _ _ h => h) (by rfl) ?y45 hHeld ?t45
 case y45 => (intro wx hSw; go_simp <;> with_reducible rfl)
 simp only [Act.put, zA, zB, zC]
 refine zT (i := 13) (v := ?v46) rfl (by kernel_rfl) (fun _ _ _ h => h) (by rfl) ?y46 hHeld ?t46
 case y46 => (intro wx hSw; have hc2 : wx.cell? ⟨w.heap.size, 2, none⟩ = some (.int .i64 p.2.2) := hSw.c 2 (zD rfl); go_simp <;> with_reducible rfl)
 simp only [Act.put, zA, zB, zC]
 refine zT (i := 14) (v := ?v47) rfl (by kernel_rfl) (fun _ _ _ h => h) (by rfl) ?y47 hHeld ?t47
 case y47 => (intro wx hSw; go_simp <;> with_reducible rfl)
 simp only [Act.put, zA, zB, zC]
 refine call_at (i := 5) (by kernel_rfl) rfl (fun K hK => ?_)
 go_simp
 refine (Mul_any b bad p.1 k _ ((hw.alloc _).alloc _).drew).mono ?_
 rintro e w1 ⟨rfl, f1, k1⟩
 generalize e1 : mulS bad p.1 k = r1 at f1 ⊢
 have E1 : Hid _ := e1
 clear e1
 have K1 : Kept b w w1 := Kept.trans (((Kept.refl b w).al _).al _).drew k1
 have B0_1 : Arr w.heap.size [.int .i64 p.1, .int .i64 p.2.1, .int .i64 p.2.2] w1 := ((Arr_at _ _ [.int .i64 p.1, .int .i64 p.2.1, .int .i64 p.2.2] _ (by simp)).alloc _).drew.kept k1 (by omega)
 have B1_1 : Arr (w.heap.size + 1) [.int .i64 0, .int .i64 0, .int .i64 0] w1 := (Arr_at _ _ [.int .i64 0, .int .i64 0, .int .i64 0] _ (by simp)).drew.kept k1 (by omega)
 have z1 := B1_1.lies
 clear hHeld
 refine hK.out _ _ B0_1 (fun hHeld => ?_)
 clear hK K k1
 refine call_at (i := 10) (by kernel_rfl) rfl (fun K hK => ?_)
 go_simp
 refine (Mul_any b r1.2 p.2.1 k _ f1).mono ?_
 rintro e w2 ⟨rfl, f2, k2⟩
 generalize e2 : mulS r1.2 p.2.1 k = r2 at f2 ⊢
 have E2 : Hid _ := e2
 clear e2
 have K2 := Kept.trans K1 k2
 have B0_2 : Arr w.heap.size [.int .i64 p.1, .int .i64 p.2.1, .int .i64 p.2.2] w2 := B0_1.kept k2 (by omega)
 have B1_2 : Arr (w.heap.size + 1) [.int .i64 0, .int .i64 0, .int .i64 0] w2 := B1_1.kept k2 (by omega)
 have z2 := B1_2.lies
 clear hHeld
 refine hK.out _ _ B0_2 (fun hHeld => ?_)
 clear hK K K1 f1 B0_1 B1_1 k2
 refine call_at (i := 15) (by kernel_rfl) rfl (fun K hK => ?_)
 go_simp
 refine (Mul_any b r2.2 p.2.2 k _ f2).mono ?_
 rintro e w3 ⟨rfl, f3, k3⟩
 generalize e3 : mulS r2.2 p.2.2 k = r3 at f3 ⊢
 have E3 : Hid _ := e3
 clear e3
 have K3 := Kept.trans K2 k3
 have B0_3 : Arr w.heap.size [.int .i64 p.1, .int .i64 p.2.1, .int .i64 p.2.2] w3 := B0_2.kept k3 (by omega)
 have B1_3 : Arr (w.heap.size + 1) [.int .i64 0, .int .i64 0, .int .i64 0] w3 := B1_2.kept k3 (by omega)
 have z3 := B1_3.lies
 clear hHeld
 refine hK.out _ _ B0_3 (fun hHeld => ?_)
 clear hK K K2 f2 B0_2 B1_2 k3
 refine zT (i := 16) (v := ?v48) rfl (by kernel_rfl) (fun _ _ _ h => h) (by rfl) ?y48 hHeld ?t48
 case y48 => (intro wx hSw; go_simp <;> with_reducible rfl)
 simp only [Act.put, zA, zB, zC]
 refine call_at (i := 17) (by kernel_rfl) rfl (fun K hK => ?_)
 go_simp
 refine (sound_any b r3.2 (r1.1, r2.1, r3.1) _ f3).mono ?_
 rintro e w4 ⟨rfl, f4, k4⟩
 generalize e4 : soundS r3.2 (r1.1, r2.1, r3.1) = r4 at f4 ⊢
 have E4 : Hid _ := e4
 clear e4
 have K4 := Kept.trans K3 k4
 have B0_4 : Arr w.heap.size [.int .i64 p.1, .int .i64 p.2.1, .int .i64 p.2.2] w4 := B0_3.kept k4 (by omega)
 have B1_4 : Arr (w.heap.size + 1) [.int .i64 0, .int .i64 0, .int .i64 0] w4 := B1_3.kept k4 (by omega)
 have z4 := B1_4.lies
 clear hHeld
 refine hK.out _ _ B0_4 (fun hHeld => ?_)
 clear hK K K3 f3 B0_3 B1_3 k4
 refine call_at (i := 18) (by kernel_rfl) rfl (fun K hK => ?_)
 have c2_B1_0 : w4.cell? ⟨w.heap.size + 1, 0, none⟩ = some (.int .i64 0) := B1_4.c 0 (zD rfl)
 have c2_B1_1 : w4.cell? ⟨w.heap.size + 1, 1, none⟩ = some (.int .i64 0) := B1_4.c 1 (zD rfl)
 have c2_B1_2 : w4.cell? ⟨w.heap.size + 1, 2, none⟩ = some (.int .i64 0) := B1_4.c 2 (zD rfl)
 have g2_B1_0 := B1_4.f 0 (zD rfl)
 have g2_B1_1 := B1_4.f 1 (zD rfl)
 have g2_B1_2 := B1_4.f 2 (zD rfl)
 go_simp
 clear hHeld
 refine hK.out _ _ (((B0_4.new _ _ (by omega) _).new _ _ (by omega) _).new _ _ (by omega) _) (fun hHeld => ?_)
 clear hK K c2_B1_0 c2_B1_1 c2_B1_2 g2_B1_0 g2_B1_1 g2_B1_2
 refine wpAnyH_done (by kernel_rfl) ?_ _
 clear hHeld
 go_wp2
 have d0 := Arr.c (B1_4.put 0 (zD rfl) (.int .i64 r4.1.1) [.int .i64 r4.1.1, .int .i64 0, .int .i64 0] rfl) 0 (zD rfl)
 have d1 := Arr.c ((B1_4.put 0 (zD rfl) (.int .i64 r4.1.1) [.int .i64 r4.1.1, .int .i64 0, .int .i64 0] rfl).put 1 (zD rfl) (.int .i64 r4.1.2.1) [.int .i64 r4.1.1, .int .i64 r4.1.2.1, .int .i64 0] rfl) 1 (zD rfl)
 have d2 := Arr.c (((B1_4.put 0 (zD rfl) (.int .i64 r4.1.1) [.int .i64 r4.1.1, .int .i64 0, .int .i64 0] rfl).put 1 (zD rfl) (.int .i64 r4.1.2.1) [.int .i64 r4.1.1, .int .i64 r4.1.2.1, .int .i64 0] rfl).put 2 (zD rfl) (.int .i64 r4.1.2.2) [.int .i64 r4.1.1, .int .i64 r4.1.2.1, .int .i64 r4.1.2.2] rfl) 2 (zD rfl)
 refine bodyPost_ret (v := .agg #[.int .i64 r4.1.1, .int .i64 r4.1.2.1, .int .i64 r4.1.2.2]) (by simp [results, Tryz.results110, go_sem, d0, d1, d2]) rfl ?_
 have hs : vScaleS bad p k = (r4.1, r4.2) := by unfold vScaleS; simp only [E1.out, E2.out, E3.out, E4.out]
 rw [hs]
 exact ⟨rfl, (((f4.new _ _ (by omega) _).new _ _ (by omega) _).new _ _ (by omega) _), (((K4.new _ _ (by omega) _).new _ _ (by omega) _).new _ _ (by omega) _)⟩
set_option maxRecDepth 100000 in
set_option maxHeartbeats 2000000 in
theorem vDot_any (b : Nat) (bad : Bool) (p : V3) (q : V3) (w : World) (hw : Fl b bad w) :
  Calls Tryz.prog 112 #[.pointer (some ⟨b, 0, none⟩), .agg #[.int .i64 p.1, .int .i64 p.2.1, .int .i64 p.2.2], .agg #[.int .i64 q.1, .int .i64 q.2.1, .int .i64 q.2.2]] w fun e w' => e = .returned (.int .i64 ((vDotS bad p q).1)) ∧ Fl b (vDotS bad p q).2 w' ∧ Kept b w w' := by
 have hl := hw.lies
 go_enter Tryz.func112, Tryz.ntmps112
 go_wp2_with fail
 refine wp_region_held_drew (S := fun w' => Arr w.heap.size [.int .i64 p.1, .int .i64 p.2.1, .int .i64 p.2.2] w' ∧ Arr (w.heap.size + 1) [.int .i64 q.1, .int .i64 q.2.1, .int .i64 q.2.2] w') (by kernel_rfl) ⟨((Arr_at _ _ [.int .i64 p.1, .int .i64 p.2.1, .int .i64 p.2.2] _ (by simp)).alloc _).drew, (Arr_at _ _ [.int .i64 q.1, .int .i64 q.2.1, .int .i64 q.2.2] _ (by simp)).drew⟩ (fun hHeld => ?_)
 refine zT (i := 0) (v := ?v49) rfl (by kernel_rfl) (fun _ _ _ h => h) (by rfl) ?y49 hHeld ?t49
 case y49 => (intro wx hSw; go_simp <;> with_reducible rfl)
 simp only [Act.put, zA, zB, zC]
 refine zT (i := 1) (v := ?v50) rfl (by kernel_rfl) (fun _ _ _ h => h) (by rfl) ?y50 hHeld ?t50
 case y50 => (intro wx hSw; go_simp <;> with_reducible rfl)
 simp only [Act.put, zA, zB, zC]
 refine zT (i := 2) (v := ?v51) rfl (by kernel_rfl) (fun _ _ _ h => h) (by rfl) ?y51 hHeld ?t51
 case y51 => (intro wx hSw; go_simp <;> with_reducible rfl)
 simp only [Act.put, zA, zB, zC]
 refine zT (i := 3) (v := ?v52) rfl (by kernel_rfl) (fun _ _ _ h => h) (by rfl) ?y52 hHeld ?t52
 case y52 => (intro wx hSw; go_simp <;> with_reducible rfl)
 simp only [Act.put, zA, zB, zC]
 refine zT (i := 4) (v := ?v53) rfl (by kernel_rfl) (fun _ _ _ h => h) (by rfl) ?y53 hHeld ?t53
 case y53 => (intro wx hSw; have hc0 : wx.cell? ⟨w.heap.size, 0, none⟩ = some (.int .i64 p.1) := hSw.1.c 0 (zD rfl); go_simp <;> with_reducible rfl)
 simp only [Act.put, zA, zB, zC]
 refine zT (i := 5) (v := ?v54) rfl (by kernel_rfl) (fun _ _ _ h => h) (by rfl) ?y54 hHeld ?t54
 case y54 => (intro wx hSw; go_simp <;> with_reducible rfl)
 simp only [Act.put, zA, zB, zC]
 refine zT (i := 6) (v := ?v55) rfl (by kernel_rfl) (fun _ _ _ h => h) (by rfl) ?y55 hHeld ?t55
 case y55 => (intro wx hSw; have hc0 : wx.cell? ⟨w.heap.size + 1, 0, none⟩ = some (.int .i64 q.1) := hSw.2.c 0 (zD rfl); go_simp <;> with_reducible rfl)
 simp only [Act.put, zA, zB, zC]
 refine zT (i := 8) (v := ?v56) rfl (by kernel_rfl) (fun _ _ _ h => h) (by rfl) ?y56 hHeld ?t56
 case y56 => (intro wx hSw; go_simp <;> with_reducible rfl)
 simp only [Act.put, zA, zB, zC]
 refine zT (i := 9) (v := ?v57) rfl (by kernel_rfl) (fun _ _ _ h => h) (by rfl) ?y57 hHeld ?t57
 case y57 => (intro wx hSw; go_simp <;> with_reducible rfl)
 simp only [Act.put, zA, zB, zC]
 refine zT (i := 10) (v := ?v58) rfl (by kernel_rfl) (fun _ _ _ h => h) (by rfl) ?y58 hHeld ?t58
 case y58 => (intro wx hSw; have hc1 : wx.cell? ⟨w.heap.size, 1, none⟩ = some (.int .i64 p.2.1) := hSw.1.c 1 (zD rfl); go_simp <;> with_reducible rfl)
 simp only [Act.put, zA, zB, zC]
 refine zT (i := 11) (v := ?v59) rfl (by kernel_rfl) (fun _ _ _ h => h) (by rfl) ?y59 hHeld ?t59
 case y59 => (intro wx hSw; go_simp <;> with_reducible rfl)
 simp only [Act.put, zA, zB, zC]
 refine zT (i := 12) (v := ?v60) rfl (by kernel_rfl) (fun _ _ _ h => h) (by rfl) ?y60 hHeld ?t60
 case y60 => (intro wx hSw; have hc1 : wx.cell? ⟨w.heap.size + 1, 1, none⟩ = some (.int .i64 q.2.1) := hSw.2.c 1 (zD rfl); go_simp <;> with_reducible rfl)
 simp only [Act.put, zA, zB, zC]
 refine zT (i := 15) (v := ?v61) rfl (by kernel_rfl) (fun _ _ _ h => h) (by rfl) ?y61 hHeld ?t61
 case y61 => (intro wx hSw; go_simp <;> with_reducible rfl)
 simp only [Act.put, zA, zB, zC]
 refine zT (i := 16) (v := ?v62) rfl (by kernel_rfl) (fun _ _ _ h => h) (by rfl) ?y62 hHeld ?t62
 case y62 => (intro wx hSw; go_simp <;> with_reducible rfl)
 simp only [Act.put, zA, zB, zC]
 refine zT (i := 17) (v := ?v63) rfl (by kernel_rfl) (fun _ _ _ h => h) (by rfl) ?y63 hHeld ?t63
 case y63 => (intro wx hSw; have hc2 : wx.cell? ⟨w.heap.size, 2, none⟩ = some (.int .i64 p.2.2) := hSw.1.c 2 (zD rfl); go_simp <;> with_reducible rfl)
 simp only [Act.put, zA, zB, zC]
 refine zT (i := 18) (v := ?v64) rfl (by kernel_rfl) (fun _ _ _ h => h) (by rfl) ?y64 hHeld ?t64
 case y64 => (intro wx hSw; go_simp <;> with_reducible rfl)
 simp only [Act.put, zA, zB, zC]
 refine zT (i := 19) (v := ?v65) rfl (by kernel_rfl) (fun _ _ _ h => h) (by rfl) ?y65 hHeld ?t65
 case y65 => (intro wx hSw; have hc2 : wx.cell? ⟨w.heap.size + 1, 2, none⟩ = some (.int .i64 q.2.2) := hSw.2.c 2 (zD rfl); go_simp <;> with_reducible rfl)
 simp only [Act.put, zA, zB, zC]
 refine call_at (i := 7) (by kernel_rfl) rfl (fun K hK => ?_)
 go_simp
 refine (Mul_any b bad p.1 q.1 _ ((hw.alloc _).alloc _).drew).mono ?_
 rintro e w1 ⟨rfl, f1, k1⟩
 generalize e1 : mulS bad p.1 q.1 = r1 at f1 ⊢
 have E1 : Hid _ := e1
 clear e1
 have K1 : Kept b w w1 := Kept.trans (((Kept.refl b w).al _).al _).drew k1
 have B0_1 : Arr w.heap.size [.int .i64 p.1, .int .i64 p.2.1, .int .i64 p.2.2] w1 := ((Arr_at _ _ [.int .i64 p.1, .int .i64 p.2.1, .int .i64 p.2.2] _ (by simp)).alloc _).drew.kept k1 (by omega)
 have B1_1 : Arr (w.heap.size + 1) [.int .i64 q.1, .int .i64 q.2.1, .int .i64 q.2.2] w1 := (Arr_at _ _ [.int .i64 q.1, .int .i64 q.2.1, .int .i64 q.2.2] _ (by simp)).drew.kept k1 (by omega)
 have z1 := B1_1.lies
 clear hHeld
 refine hK.out _ _ ⟨B0_1, B1_1⟩ (fun hHeld => ?_)
 clear hK K k1
 refine call_at (i := 13) (by kernel_rfl) rfl (fun K hK => ?_)
 go_simp
 refine (Mul_any b r1.2 p.2.1 q.2.1 _ f1).mono ?_
 rintro e w2 ⟨rfl, f2, k2⟩
 generalize e2 : mulS r1.2 p.2.1 q.2.1 = r2 at f2 ⊢
 have E2 : Hid _ := e2
 clear e2
 have K2 := Kept.trans K1 k2
 have B0_2 : Arr w.heap.size [.int .i64 p.1, .int .i64 p.2.1, .int .i64 p.2.2] w2 := B0_1.kept k2 (by omega)
 have B1_2 : Arr (w.heap.size + 1) [.int .i64 q.1, .int .i64 q.2.1, .int .i64 q.2.2] w2 := B1_1.kept k2 (by omega)
 have z2 := B1_2.lies
 clear hHeld
 refine hK.out _ _ ⟨B0_2, B1_2⟩ (fun hHeld => ?_)
 clear hK K K1 f1 B0_1 B1_1 k2
 refine call_at (i := 14) (by kernel_rfl) rfl (fun K hK => ?_)
 go_simp
 refine (Add_any b r2.2 r1.1 r2.1 _ f2).mono ?_
 rintro e w3 ⟨rfl, f3, k3⟩
 generalize e3 : addS r2.2 r1.1 r2.1 = r3 at f3 ⊢
 have E3 : Hid _ := e3
 clear e3
 have K3 := Kept.trans K2 k3
 have B0_3 : Arr w.heap.size [.int .i64 p.1, .int .i64 p.2.1, .int .i64 p.2.2] w3 := B0_2.kept k3 (by omega)
 have B1_3 : Arr (w.heap.size + 1) [.int .i64 q.1, .int .i64 q.2.1, .int .i64 q.2.2] w3 := B1_2.kept k3 (by omega)
 have z3 := B1_3.lies
 clear hHeld
 refine hK.out _ _ ⟨B0_3, B1_3⟩ (fun hHeld => ?_)
 clear hK K K2 f2 B0_2 B1_2 k3
 refine call_at (i := 20) (by kernel_rfl) rfl (fun K hK => ?_)
 go_simp
 refine (Mul_any b r3.2 p.2.2 q.2.2 _ f3).mono ?_
 rintro e w4 ⟨rfl, f4, k4⟩
 generalize e4 : mulS r3.2 p.2.2 q.2.2 = r4 at f4 ⊢
 have E4 : Hid _ := e4
 clear e4
 have K4 := Kept.trans K3 k4
 have B0_4 : Arr w.heap.size [.int .i64 p.1, .int .i64 p.2.1, .int .i64 p.2.2] w4 := B0_3.kept k4 (by omega)
 have B1_4 : Arr (w.heap.size + 1) [.int .i64 q.1, .int .i64 q.2.1, .int .i64 q.2.2] w4 := B1_3.kept k4 (by omega)
 have z4 := B1_4.lies
 clear hHeld
 refine hK.out _ _ ⟨B0_4, B1_4⟩ (fun hHeld => ?_)
 clear hK K K3 f3 B0_3 B1_3 k4
 refine call_at (i := 21) (by kernel_rfl) rfl (fun K hK => ?_)
 go_simp
 refine (Add_any b r4.2 r3.1 r4.1 _ f4).mono ?_
 rintro e w5 ⟨rfl, f5, k5⟩
 generalize e5 : addS r4.2 r3.1 r4.1 = r5 at f5 ⊢
 have E5 : Hid _ := e5
 clear e5
 have K5 := Kept.trans K4 k5
 have B0_5 : Arr w.heap.size [.int .i64 p.1, .int .i64 p.2.1, .int .i64 p.2.2] w5 := B0_4.kept k5 (by omega)
 have B1_5 : Arr (w.heap.size + 1) [.int .i64 q.1, .int .i64 q.2.1, .int .i64 q.2.2] w5 := B1_4.kept k5 (by omega)
 have z5 := B1_5.lies
 clear hHeld
 refine hK.out _ _ ⟨B0_5, B1_5⟩ (fun hHeld => ?_)
 clear hK K K4 f4 B0_4 B1_4 k5
 refine zT (i := 22) (v := ?v66) rfl (by kernel_rfl) (fun _ _ _ h => h) (by rfl) ?y66 hHeld ?t66
 case y66 => (intro wx hSw; go_simp <;> with_reducible rfl)
 simp only [Act.put, zA, zB, zC]
 refine wpAnyH_done (by kernel_rfl) ?_ _
 clear hHeld
 go_wp2
 go_ret
 have hs : vDotS bad p q = (r5.1, r5.2) := by unfold vDotS; simp only [E1.out, E2.out, E3.out, E4.out, E5.out]
 rw [hs]
 exact ⟨rfl, f5, K5⟩
set_option maxRecDepth 100000 in
set_option maxHeartbeats 2000000 in
theorem vCross_any (b : Nat) (bad : Bool) (p : V3) (q : V3) (w : World) (hw : Fl b bad w) :
  Calls Tryz.prog 111 #[.pointer (some ⟨b, 0, none⟩), .agg #[.int .i64 p.1, .int .i64 p.2.1, .int .i64 p.2.2], .agg #[.int .i64 q.1, .int .i64 q.2.1, .int .i64 q.2.2]] w fun e w' => e = .returned (.agg #[.int .i64 ((vCrossS bad p q).1.1), .int .i64 ((vCrossS bad p q).1.2.1), .int .i64 ((vCrossS bad p q).1.2.2)]) ∧ Fl b (vCrossS bad p q).2 w' ∧ Kept b w w' := by
 have hl := hw.lies
 go_enter Tryz.func111, Tryz.ntmps111
 go_wp2_with fail
 refine wp_region_held_drew (S := fun w' => Arr w.heap.size [.int .i64 p.1, .int .i64 p.2.1, .int .i64 p.2.2] w' ∧ Arr (w.heap.size + 1) [.int .i64 q.1, .int .i64 q.2.1, .int .i64 q.2.2] w') (by kernel_rfl) ⟨(((Arr_at _ _ [.int .i64 p.1, .int .i64 p.2.1, .int .i64 p.2.2] _ (by simp)).alloc _).alloc _).drew, ((Arr_at _ _ [.int .i64 q.1, .int .i64 q.2.1, .int .i64 q.2.2] _ (by simp)).alloc _).drew⟩ (fun hHeld => ?_)
 refine zT (i := 0) (v := ?v67) rfl (by kernel_rfl) (fun _ _ _ h => h) (by rfl) ?y67 hHeld ?t67
 case y67 => (intro wx hSw; go_simp <;> with_reducible rfl)
 simp only [Act.put, zA, zB, zC]
 refine zT (i := 1) (v := ?v68) rfl (by kernel_rfl) (fun _ _ _ h => h) (by rfl) ?y68 hHeld ?t68
 case y68 => (intro wx hSw; go_simp <;> with_reducible rfl)
 simp only [Act.put, zA, zB, zC]
 refine zT (i := 2) (v := ?v69) rfl (by kernel_rfl) (fun _ _ _ h => h) (by rfl) ?y69 hHeld ?t69
 case y69 => (intro wx hSw; go_simp <;> with_reducible rfl)
 simp only [Act.put, zA, zB, zC]
 refine zT (i := 3) (v := ?v70) rfl (by kernel_rfl) (fun _ _ _ h => h) (by rfl) ?y70 hHeld ?t70
 case y70 => (intro wx hSw; go_simp <;> with_reducible rfl)
 simp only [Act.put, zA, zB, zC]
 refine zT (i := 4) (v := ?v71) rfl (by kernel_rfl) (fun _ _ _ h => h) (by rfl) ?y71 hHeld ?t71
 case y71 => (intro wx hSw; have hc1 : wx.cell? ⟨w.heap.size, 1, none⟩ = some (.int .i64 p.2.1) := hSw.1.c 1 (zD rfl); go_simp <;> with_reducible rfl)
 simp only [Act.put, zA, zB, zC]
 refine zT (i := 5) (v := ?v72) rfl (by kernel_rfl) (fun _ _ _ h => h) (by rfl) ?y72 hHeld ?t72
 case y72 => (intro wx hSw; go_simp <;> with_reducible rfl)
 simp only [Act.put, zA, zB, zC]
 refine zT (i := 6) (v := ?v73) rfl (by kernel_rfl) (fun _ _ _ h => h) (by rfl) ?y73 hHeld ?t73
 case y73 => (intro wx hSw; have hc2 : wx.cell? ⟨w.heap.size + 1, 2, none⟩ = some (.int .i64 q.2.2) := hSw.2.c 2 (zD rfl); go_simp <;> with_reducible rfl)
 simp only [Act.put, zA, zB, zC]
 refine zT (i := 8) (v := ?v74) rfl (by kernel_rfl) (fun _ _ _ h => h) (by rfl) ?y74 hHeld ?t74
 case y74 => (intro wx hSw; go_simp <;> with_reducible rfl)
 simp only [Act.put, zA, zB, zC]
 refine zT (i := 9) (v := ?v75) rfl (by kernel_rfl) (fun _ _ _ h => h) (by rfl) ?y75 hHeld ?t75
 case y75 => (intro wx hSw; go_simp <;> with_reducible rfl)
 simp only [Act.put, zA, zB, zC]
 refine zT (i := 10) (v := ?v76) rfl (by kernel_rfl) (fun _ _ _ h => h) (by rfl) ?y76 hHeld ?t76
 case y76 => (intro wx hSw; have hc2 : wx.cell? ⟨w.heap.size, 2, none⟩ = some (.int .i64 p.2.2) := hSw.1.c 2 (zD rfl); go_simp <;> with_reducible rfl)
 simp only [Act.put, zA, zB, zC]
 refine zT (i := 11) (v := ?v77) rfl (by kernel_rfl) (fun _ _ _ h => h) (by rfl) ?y77 hHeld ?t77
 case y77 => (intro wx hSw; go_simp <;> with_reducible rfl)
 simp only [Act.put, zA, zB, zC]
 refine zT (i := 12) (v := ?v78) rfl (by kernel_rfl) (fun _ _ _ h => h) (by rfl) ?y78 hHeld ?t78
 case y78 => (intro wx hSw; have hc1 : wx.cell? ⟨w.heap.size + 1, 1, none⟩ = some (.int .i64 q.2.1) := hSw.2.c 1 (zD rfl); go_simp <;> with_reducible rfl)
 simp only [Act.put, zA, zB, zC]
 refine zT (i := 15) (v := ?v79) rfl (by kernel_rfl) (fun _ _ _ h => h) (by rfl) ?y79 hHeld ?t79
 case y79 => (intro wx hSw; go_simp <;> with_reducible rfl)
 simp only [Act.put, zA, zB, zC]
 refine zT (i := 16) (v := ?v80) rfl (by kernel_rfl) (fun _ _ _ h => h) (by rfl) ?y80 hHeld ?t80
 case y80 => (intro wx hSw; go_simp <;> with_reducible rfl)
 simp only [Act.put, zA, zB, zC]
 refine zT (i := 17) (v := ?v81) rfl (by kernel_rfl) (fun _ _ _ h => h) (by rfl) ?y81 hHeld ?t81
 case y81 => (intro wx hSw; go_simp <;> with_reducible rfl)
 simp only [Act.put, zA, zB, zC]
 refine zT (i := 18) (v := ?v82) rfl (by kernel_rfl) (fun _ _ _ h => h) (by rfl) ?y82 hHeld ?t82
 case y82 => (intro wx hSw; have hc2 : wx.cell? ⟨w.heap.size, 2, none⟩ = some (.int .i64 p.2.2) := hSw.1.c 2 (zD rfl); go_simp <;> with_reducible rfl)
 simp only [Act.put, zA, zB, zC]
 refine zT (i := 19) (v := ?v83) rfl (by kernel_rfl) (fun _ _ _ h => h) (by rfl) ?y83 hHeld ?t83
 case y83 => (intro wx hSw; go_simp <;> with_reducible rfl)
 simp only [Act.put, zA, zB, zC]
 refine zT (i := 20) (v := ?v84) rfl (by kernel_rfl) (fun _ _ _ h => h) (by rfl) ?y84 hHeld ?t84
 case y84 => (intro wx hSw; have hc0 : wx.cell? ⟨w.heap.size + 1, 0, none⟩ = some (.int .i64 q.1) := hSw.2.c 0 (zD rfl); go_simp <;> with_reducible rfl)
 simp only [Act.put, zA, zB, zC]
 refine zT (i := 22) (v := ?v85) rfl (by kernel_rfl) (fun _ _ _ h => h) (by rfl) ?y85 hHeld ?t85
 case y85 => (intro wx hSw; go_simp <;> with_reducible rfl)
 simp only [Act.put, zA, zB, zC]
 refine zT (i := 23) (v := ?v86) rfl (by kernel_rfl) (fun _ _ _ h => h) (by rfl) ?y86 hHeld ?t86
 case y86 => (intro wx hSw; go_simp <;> with_reducible rfl)
 simp only [Act.put, zA, zB, zC]
 refine zT (i := 24) (v := ?v87) rfl (by kernel_rfl) (fun _ _ _ h => h) (by rfl) ?y87 hHeld ?t87
 case y87 => (intro wx hSw; have hc0 : wx.cell? ⟨w.heap.size, 0, none⟩ = some (.int .i64 p.1) := hSw.1.c 0 (zD rfl); go_simp <;> with_reducible rfl)
 simp only [Act.put, zA, zB, zC]
 refine zT (i := 25) (v := ?v88) rfl (by kernel_rfl) (fun _ _ _ h => h) (by rfl) ?y88 hHeld ?t88
 case y88 => (intro wx hSw; go_simp <;> with_reducible rfl)
 simp only [Act.put, zA, zB, zC]
 refine zT (i := 26) (v := ?v89) rfl (by kernel_rfl) (fun _ _ _ h => h) (by rfl) ?y89 hHeld ?t89
 case y89 => (intro wx hSw; have hc2 : wx.cell? ⟨w.heap.size + 1, 2, none⟩ = some (.int .i64 q.2.2) := hSw.2.c 2 (zD rfl); go_simp <;> with_reducible rfl)
 simp only [Act.put, zA, zB, zC]
 refine zT (i := 29) (v := ?v90) rfl (by kernel_rfl) (fun _ _ _ h => h) (by rfl) ?y90 hHeld ?t90
 case y90 => (intro wx hSw; go_simp <;> with_reducible rfl)
 simp only [Act.put, zA, zB, zC]
 refine zT (i := 30) (v := ?v91) rfl (by kernel_rfl) (fun _ _ _ h => h) (by rfl) ?y91 hHeld ?t91
 case y91 => (intro wx hSw; go_simp <;> with_reducible rfl)
 simp only [Act.put, zA, zB, zC]
 refine zT (i := 31) (v := ?v92) rfl (by kernel_rfl) (fun _ _ _ h => h) (by rfl) ?y92 hHeld ?t92
 case y92 => (intro wx hSw; go_simp <;> with_reducible rfl)
 simp only [Act.put, zA, zB, zC]
 refine zT (i := 32) (v := ?v93) rfl (by kernel_rfl) (fun _ _ _ h => h) (by rfl) ?y93 hHeld ?t93
 case y93 => (intro wx hSw; have hc0 : wx.cell? ⟨w.heap.size, 0, none⟩ = some (.int .i64 p.1) := hSw.1.c 0 (zD rfl); go_simp <;> with_reducible rfl)
 simp only [Act.put, zA, zB, zC]
 refine zT (i := 33) (v := ?v94) rfl (by kernel_rfl) (fun _ _ _ h => h) (by rfl) ?y94 hHeld ?t94
 case y94 => (intro wx hSw; go_simp <;> with_reducible rfl)
 simp only [Act.put, zA, zB, zC]
 refine zT (i := 34) (v := ?v95) rfl (by kernel_rfl) (fun _ _ _ h => h) (by rfl) ?y95 hHeld ?t95
 case y95 => (intro wx hSw; have hc1 : wx.cell? ⟨w.heap.size + 1, 1, none⟩ = some (.int .i64 q.2.1) := hSw.2.c 1 (zD rfl); go_simp <;> with_reducible rfl)
 simp only [Act.put, zA, zB, zC]
 refine zT (i := 36) (v := ?v96) rfl (by kernel_rfl) (fun _ _ _ h => h) (by rfl) ?y96 hHeld ?t96
 case y96 => (intro wx hSw; go_simp <;> with_reducible rfl)
 simp only [Act.put, zA, zB, zC]
 refine zT (i := 37) (v := ?v97) rfl (by kernel_rfl) (fun _ _ _ h => h) (by rfl) ?y97 hHeld ?t97
 case y97 => (intro wx hSw; go_simp <;> with_reducible rfl)
 simp only [Act.put, zA, zB, zC]
 refine zT (i := 38) (v := ?v98) rfl (by kernel_rfl) (fun _ _ _ h => h) (by rfl) ?y98 hHeld ?t98
 case y98 => (intro wx hSw; have hc1 : wx.cell? ⟨w.heap.size, 1, none⟩ = some (.int .i64 p.2.1) := hSw.1.c 1 (zD rfl); go_simp <;> with_reducible rfl)
 simp only [Act.put, zA, zB, zC]
 refine zT (i := 39) (v := ?v99) rfl (by kernel_rfl) (fun _ _ _ h => h) (by rfl) ?y99 hHeld ?t99
 case y99 => (intro wx hSw; go_simp <;> with_reducible rfl)
 simp only [Act.put, zA, zB, zC]
 refine zT (i := 40) (v := ?v100) rfl (by kernel_rfl) (fun _ _ _ h => h) (by rfl) ?y100 hHeld ?t100
 case y100 => (intro wx hSw; have hc0 : wx.cell? ⟨w.heap.size + 1, 0, none⟩ = some (.int .i64 q.1) := hSw.2.c 0 (zD rfl); go_simp <;> with_reducible rfl)
 simp only [Act.put, zA, zB, zC]
 refine call_at (i := 7) (by kernel_rfl) rfl (fun K hK => ?_)
 go_simp
 refine (Mul_any b bad p.2.1 q.2.2 _ (((hw.alloc _).alloc _).alloc _).drew).mono ?_
 rintro e w1 ⟨rfl, f1, k1⟩
 generalize e1 : mulS bad p.2.1 q.2.2 = r1 at f1 ⊢
 have E1 : Hid _ := e1
 clear e1
 have K1 : Kept b w w1 := Kept.trans ((((Kept.refl b w).al _).al _).al _).drew k1
 have B0_1 : Arr w.heap.size [.int .i64 p.1, .int .i64 p.2.1, .int .i64 p.2.2] w1 := (((Arr_at _ _ [.int .i64 p.1, .int .i64 p.2.1, .int .i64 p.2.2] _ (by simp)).alloc _).alloc _).drew.kept k1 (by omega)
 have B1_1 : Arr (w.heap.size + 1) [.int .i64 q.1, .int .i64 q.2.1, .int .i64 q.2.2] w1 := ((Arr_at _ _ [.int .i64 q.1, .int .i64 q.2.1, .int .i64 q.2.2] _ (by simp)).alloc _).drew.kept k1 (by omega)
 have B2_1 : Arr (w.heap.size + 1 + 1) [.int .i64 0, .int .i64 0, .int .i64 0] w1 := (Arr_at _ _ [.int .i64 0, .int .i64 0, .int .i64 0] _ (by simp)).drew.kept k1 (by omega)
 have z1 := B2_1.lies
 clear hHeld
 refine hK.out _ _ ⟨B0_1, B1_1⟩ (fun hHeld => ?_)
 clear hK K k1
 refine call_at (i := 13) (by kernel_rfl) rfl (fun K hK => ?_)
 go_simp
 refine (Mul_any b r1.2 p.2.2 q.2.1 _ f1).mono ?_
 rintro e w2 ⟨rfl, f2, k2⟩
 generalize e2 : mulS r1.2 p.2.2 q.2.1 = r2 at f2 ⊢
 have E2 : Hid _ := e2
 clear e2
 have K2 := Kept.trans K1 k2
 have B0_2 : Arr w.heap.size [.int .i64 p.1, .int .i64 p.2.1, .int .i64 p.2.2] w2 := B0_1.kept k2 (by omega)
 have B1_2 : Arr (w.heap.size + 1) [.int .i64 q.1, .int .i64 q.2.1, .int .i64 q.2.2] w2 := B1_1.kept k2 (by omega)
 have B2_2 : Arr (w.heap.size + 1 + 1) [.int .i64 0, .int .i64 0, .int .i64 0] w2 := B2_1.kept k2 (by omega)
 have z2 := B2_2.lies
 clear hHeld
 refine hK.out _ _ ⟨B0_2, B1_2⟩ (fun hHeld => ?_)
 clear hK K K1 f1 B0_1 B1_1 B2_1 k2
 refine call_at (i := 14) (by kernel_rfl) rfl (fun K hK => ?_)
 go_simp
 refine (Sub_any b r2.2 r1.1 r2.1 _ f2).mono ?_
 rintro e w3 ⟨rfl, f3, k3⟩
 generalize e3 : subS r2.2 r1.1 r2.1 = r3 at f3 ⊢
 have E3 : Hid _ := e3
 clear e3
 have K3 := Kept.trans K2 k3
 have B0_3 : Arr w.heap.size [.int .i64 p.1, .int .i64 p.2.1, .int .i64 p.2.2] w3 := B0_2.kept k3 (by omega)
 have B1_3 : Arr (w.heap.size + 1) [.int .i64 q.1, .int .i64 q.2.1, .int .i64 q.2.2] w3 := B1_2.kept k3 (by omega)
 have B2_3 : Arr (w.heap.size + 1 + 1) [.int .i64 0, .int .i64 0, .int .i64 0] w3 := B2_2.kept k3 (by omega)
 have z3 := B2_3.lies
 clear hHeld
 refine hK.out _ _ ⟨B0_3, B1_3⟩ (fun hHeld => ?_)
 clear hK K K2 f2 B0_2 B1_2 B2_2 k3
 refine call_at (i := 21) (by kernel_rfl) rfl (fun K hK => ?_)
 go_simp
 refine (Mul_any b r3.2 p.2.2 q.1 _ f3).mono ?_
 rintro e w4 ⟨rfl, f4, k4⟩
 generalize e4 : mulS r3.2 p.2.2 q.1 = r4 at f4 ⊢
 have E4 : Hid _ := e4
 clear e4
 have K4 := Kept.trans K3 k4
 have B0_4 : Arr w.heap.size [.int .i64 p.1, .int .i64 p.2.1, .int .i64 p.2.2] w4 := B0_3.kept k4 (by omega)
 have B1_4 : Arr (w.heap.size + 1) [.int .i64 q.1, .int .i64 q.2.1, .int .i64 q.2.2] w4 := B1_3.kept k4 (by omega)
 have B2_4 : Arr (w.heap.size + 1 + 1) [.int .i64 0, .int .i64 0, .int .i64 0] w4 := B2_3.kept k4 (by omega)
 have z4 := B2_4.lies
 clear hHeld
 refine hK.out _ _ ⟨B0_4, B1_4⟩ (fun hHeld => ?_)
 clear hK K K3 f3 B0_3 B1_3 B2_3 k4
 refine call_at (i := 27) (by kernel_rfl) rfl (fun K hK => ?_)
 go_simp
 refine (Mul_any b r4.2 p.1 q.2.2 _ f4).mono ?_
 rintro e w5 ⟨rfl, f5, k5⟩
 generalize e5 : mulS r4.2 p.1 q.2.2 = r5 at f5 ⊢
 have E5 : Hid _ := e5
 clear e5
 have K5 := Kept.trans K4 k5
 have B0_5 : Arr w.heap.size [.int .i64 p.1, .int .i64 p.2.1, .int .i64 p.2.2] w5 := B0_4.kept k5 (by omega)
 have B1_5 : Arr (w.heap.size + 1) [.int .i64 q.1, .int .i64 q.2.1, .int .i64 q.2.2] w5 := B1_4.kept k5 (by omega)
 have B2_5 : Arr (w.heap.size + 1 + 1) [.int .i64 0, .int .i64 0, .int .i64 0] w5 := B2_4.kept k5 (by omega)
 have z5 := B2_5.lies
 clear hHeld
 refine hK.out _ _ ⟨B0_5, B1_5⟩ (fun hHeld => ?_)
 clear hK K K4 f4 B0_4 B1_4 B2_4 k5
 refine call_at (i := 28) (by kernel_rfl) rfl (fun K hK => ?_)
 go_simp
 refine (Sub_any b r5.2 r4.1 r5.1 _ f5).mono ?_
 rintro e w6 ⟨rfl, f6, k6⟩
 generalize e6 : subS r5.2 r4.1 r5.1 = r6 at f6 ⊢
 have E6 : Hid _ := e6
 clear e6
 have K6 := Kept.trans K5 k6
 have B0_6 : Arr w.heap.size [.int .i64 p.1, .int .i64 p.2.1, .int .i64 p.2.2] w6 := B0_5.kept k6 (by omega)
 have B1_6 : Arr (w.heap.size + 1) [.int .i64 q.1, .int .i64 q.2.1, .int .i64 q.2.2] w6 := B1_5.kept k6 (by omega)
 have B2_6 : Arr (w.heap.size + 1 + 1) [.int .i64 0, .int .i64 0, .int .i64 0] w6 := B2_5.kept k6 (by omega)
 have z6 := B2_6.lies
 clear hHeld
 refine hK.out _ _ ⟨B0_6, B1_6⟩ (fun hHeld => ?_)
 clear hK K K5 f5 B0_5 B1_5 B2_5 k6
 refine call_at (i := 35) (by kernel_rfl) rfl (fun K hK => ?_)
 go_simp
 refine (Mul_any b r6.2 p.1 q.2.1 _ f6).mono ?_
 rintro e w7 ⟨rfl, f7, k7⟩
 generalize e7 : mulS r6.2 p.1 q.2.1 = r7 at f7 ⊢
 have E7 : Hid _ := e7
 clear e7
 have K7 := Kept.trans K6 k7
 have B0_7 : Arr w.heap.size [.int .i64 p.1, .int .i64 p.2.1, .int .i64 p.2.2] w7 := B0_6.kept k7 (by omega)
 have B1_7 : Arr (w.heap.size + 1) [.int .i64 q.1, .int .i64 q.2.1, .int .i64 q.2.2] w7 := B1_6.kept k7 (by omega)
 have B2_7 : Arr (w.heap.size + 1 + 1) [.int .i64 0, .int .i64 0, .int .i64 0] w7 := B2_6.kept k7 (by omega)
 have z7 := B2_7.lies
 clear hHeld
 refine hK.out _ _ ⟨B0_7, B1_7⟩ (fun hHeld => ?_)
 clear hK K K6 f6 B0_6 B1_6 B2_6 k7
 refine call_at (i := 41) (by kernel_rfl) rfl (fun K hK => ?_)
 go_simp
 refine (Mul_any b r7.2 p.2.1 q.1 _ f7).mono ?_
 rintro e w8 ⟨rfl, f8, k8⟩
 generalize e8 : mulS r7.2 p.2.1 q.1 = r8 at f8 ⊢
 have E8 : Hid _ := e8
 clear e8
 have K8 := Kept.trans K7 k8
 have B0_8 : Arr w.heap.size [.int .i64 p.1, .int .i64 p.2.1, .int .i64 p.2.2] w8 := B0_7.kept k8 (by omega)
 have B1_8 : Arr (w.heap.size + 1) [.int .i64 q.1, .int .i64 q.2.1, .int .i64 q.2.2] w8 := B1_7.kept k8 (by omega)
 have B2_8 : Arr (w.heap.size + 1 + 1) [.int .i64 0, .int .i64 0, .int .i64 0] w8 := B2_7.kept k8 (by omega)
 have z8 := B2_8.lies
 clear hHeld
 refine hK.out _ _ ⟨B0_8, B1_8⟩ (fun hHeld => ?_)
 clear hK K K7 f7 B0_7 B1_7 B2_7 k8
 refine call_at (i := 42) (by kernel_rfl) rfl (fun K hK => ?_)
 go_simp
 refine (Sub_any b r8.2 r7.1 r8.1 _ f8).mono ?_
 rintro e w9 ⟨rfl, f9, k9⟩
 generalize e9 : subS r8.2 r7.1 r8.1 = r9 at f9 ⊢
 have E9 : Hid _ := e9
 clear e9
 have K9 := Kept.trans K8 k9
 have B0_9 : Arr w.heap.size [.int .i64 p.1, .int .i64 p.2.1, .int .i64 p.2.2] w9 := B0_8.kept k9 (by omega)
 have B1_9 : Arr (w.heap.size + 1) [.int .i64 q.1, .int .i64 q.2.1, .int .i64 q.2.2] w9 := B1_8.kept k9 (by omega)
 have B2_9 : Arr (w.heap.size + 1 + 1) [.int .i64 0, .int .i64 0, .int .i64 0] w9 := B2_8.kept k9 (by omega)
 have z9 := B2_9.lies
 clear hHeld
 refine hK.out _ _ ⟨B0_9, B1_9⟩ (fun hHeld => ?_)
 clear hK K K8 f8 B0_8 B1_8 B2_8 k9
 refine zT (i := 43) (v := ?v101) rfl (by kernel_rfl) (fun _ _ _ h => h) (by rfl) ?y101 hHeld ?t101
 case y101 => (intro wx hSw; go_simp <;> with_reducible rfl)
 simp only [Act.put, zA, zB, zC]
 refine call_at (i := 44) (by kernel_rfl) rfl (fun K hK => ?_)
 go_simp
 refine (sound_any b r9.2 (r3.1, r6.1, r9.1) _ f9).mono ?_
 rintro e w10 ⟨rfl, f10, k10⟩
 generalize e10 : soundS r9.2 (r3.1, r6.1, r9.1) = r10 at f10 ⊢
 have E10 : Hid _ := e10
 clear e10
 have K10 := Kept.trans K9 k10
 have B0_10 : Arr w.heap.size [.int .i64 p.1, .int .i64 p.2.1, .int .i64 p.2.2] w10 := B0_9.kept k10 (by omega)
 have B1_10 : Arr (w.heap.size + 1) [.int .i64 q.1, .int .i64 q.2.1, .int .i64 q.2.2] w10 := B1_9.kept k10 (by omega)
 have B2_10 : Arr (w.heap.size + 1 + 1) [.int .i64 0, .int .i64 0, .int .i64 0] w10 := B2_9.kept k10 (by omega)
 have z10 := B2_10.lies
 clear hHeld
 refine hK.out _ _ ⟨B0_10, B1_10⟩ (fun hHeld => ?_)
 clear hK K K9 f9 B0_9 B1_9 B2_9 k10
 refine call_at (i := 45) (by kernel_rfl) rfl (fun K hK => ?_)
 have c2_B2_0 : w10.cell? ⟨w.heap.size + 1 + 1, 0, none⟩ = some (.int .i64 0) := B2_10.c 0 (zD rfl)
 have c2_B2_1 : w10.cell? ⟨w.heap.size + 1 + 1, 1, none⟩ = some (.int .i64 0) := B2_10.c 1 (zD rfl)
 have c2_B2_2 : w10.cell? ⟨w.heap.size + 1 + 1, 2, none⟩ = some (.int .i64 0) := B2_10.c 2 (zD rfl)
 have g2_B2_0 := B2_10.f 0 (zD rfl)
 have g2_B2_1 := B2_10.f 1 (zD rfl)
 have g2_B2_2 := B2_10.f 2 (zD rfl)
 go_simp
 clear hHeld
 refine hK.out _ _ ⟨(((B0_10.new _ _ (by omega) _).new _ _ (by omega) _).new _ _ (by omega) _), (((B1_10.new _ _ (by omega) _).new _ _ (by omega) _).new _ _ (by omega) _)⟩ (fun hHeld => ?_)
 clear hK K c2_B2_0 c2_B2_1 c2_B2_2 g2_B2_0 g2_B2_1 g2_B2_2
 refine wpAnyH_done (by kernel_rfl) ?_ _
 clear hHeld
 go_wp2
 have d0 := Arr.c (B2_10.put 0 (zD rfl) (.int .i64 r10.1.1) [.int .i64 r10.1.1, .int .i64 0, .int .i64 0] rfl) 0 (zD rfl)
 have d1 := Arr.c ((B2_10.put 0 (zD rfl) (.int .i64 r10.1.1) [.int .i64 r10.1.1, .int .i64 0, .int .i64 0] rfl).put 1 (zD rfl) (.int .i64 r10.1.2.1) [.int .i64 r10.1.1, .int .i64 r10.1.2.1, .int .i64 0] rfl) 1 (zD rfl)
 have d2 := Arr.c (((B2_10.put 0 (zD rfl) (.int .i64 r10.1.1) [.int .i64 r10.1.1, .int .i64 0, .int .i64 0] rfl).put 1 (zD rfl) (.int .i64 r10.1.2.1) [.int .i64 r10.1.1, .int .i64 r10.1.2.1, .int .i64 0] rfl).put 2 (zD rfl) (.int .i64 r10.1.2.2) [.int .i64 r10.1.1, .int .i64 r10.1.2.1, .int .i64 r10.1.2.2] rfl) 2 (zD rfl)
 refine bodyPost_ret (v := .agg #[.int .i64 r10.1.1, .int .i64 r10.1.2.1, .int .i64 r10.1.2.2]) (by simp [results, Tryz.results111, go_sem, d0, d1, d2]) rfl ?_
 have hs : vCrossS bad p q = (r10.1, r10.2) := by unfold vCrossS; simp only [E1.out, E2.out, E3.out, E4.out, E5.out, E6.out, E7.out, E8.out, E9.out, E10.out]
 rw [hs]
 exact ⟨rfl, (((f10.new _ _ (by omega) _).new _ _ (by omega) _).new _ _ (by omega) _), (((K10.new _ _ (by omega) _).new _ _ (by omega) _).new _ _ (by omega) _)⟩
set_option maxRecDepth 100000 in
set_option maxHeartbeats 2000000 in
theorem vNorm_any (b : Nat) (bad : Bool) (p : V3) (w : World) (hw : Fl b bad w) :
  Calls Tryz.prog 69 #[.pointer (some ⟨b, 0, none⟩), .agg #[.int .i64 p.1, .int .i64 p.2.1, .int .i64 p.2.2]] w fun e w' => e = .returned (.int .i64 ((vNormS bad p).1)) ∧ Fl b (vNormS bad p).2 w' ∧ Kept b w w' := by
 have hl := hw.lies
 go_enter Tryz.func69, Tryz.ntmps69
 go_wp2_with fail
 refine (Norm_any b bad p.1 p.2.1 p.2.2 _ (hw.alloc _)).mono ?_
 rintro e w1 ⟨rfl, f1, k1⟩
 generalize e1 : normS bad p.1 p.2.1 p.2.2 = r1 at f1 ⊢
 have E1 : Hid _ := e1
 clear e1
 have K1 : Kept b w w1 := Kept.trans ((Kept.refl b w).al _) k1
 have B0_1 : Arr w.heap.size [.int .i64 p.1, .int .i64 p.2.1, .int .i64 p.2.2] w1 := (Arr_at _ _ [.int .i64 p.1, .int .i64 p.2.1, .int .i64 p.2.2] _ (by simp)).kept k1 (by omega)
 have z1 := B0_1.lies
 clear k1
 go_wp2
 go_ret
 have hs : vNormS bad p = (r1.1, r1.2) := by unfold vNormS; simp only [E1.out]
 rw [hs]
 exact ⟨rfl, f1, K1⟩
set_option maxRecDepth 100000 in
set_option maxHeartbeats 2000000 in
theorem vUnit_any (b : Nat) (bad : Bool) (p : V3) (w : World) (hw : Fl b bad w) :
  Calls Tryz.prog 94 #[.pointer (some ⟨b, 0, none⟩), .agg #[.int .i64 p.1, .int .i64 p.2.1, .int .i64 p.2.2]] w fun e w' => e = .returned (.agg #[.int .i64 ((vUnitS bad p).1.1), .int .i64 ((vUnitS bad p).1.2.1), .int .i64 ((vUnitS bad p).1.2.2)]) ∧ Fl b (vUnitS bad p).2 w' ∧ Kept b w w' := by
 have hl := hw.lies
 go_enter Tryz.func94, Tryz.ntmps94
 go_wp2_with fail
 refine (vNorm_any b bad p _ ((hw.alloc _).alloc _)).mono ?_
 rintro e w1 ⟨rfl, f1, k1⟩
 generalize e1 : vNormS bad p = r1 at f1 ⊢
 have E1 : Hid _ := e1
 clear e1
 have K1 : Kept b w w1 := Kept.trans (((Kept.refl b w).al _).al _) k1
 have B0_1 : Arr w.heap.size [.int .i64 p.1, .int .i64 p.2.1, .int .i64 p.2.2] w1 := ((Arr_at _ _ [.int .i64 p.1, .int .i64 p.2.1, .int .i64 p.2.2] _ (by simp)).alloc _).kept k1 (by omega)
 have B1_1 : Arr (w.heap.size + 1) [.int .i64 0, .int .i64 0, .int .i64 0] w1 := (Arr_at _ _ [.int .i64 0, .int .i64 0, .int .i64 0] _ (by simp)).kept k1 (by omega)
 have z1 := B1_1.lies
 clear k1
 by_cases hc1 : r1.1 < 1048576
 ·have Hhc1 : Hid (r1.1 < 1048576) := hc1
  go_wp2_with fail
  refine (Fail_any b r1.2  _ f1).mono ?_
  rintro e w2 ⟨rfl, f2, k2⟩
  have K2 := Kept.trans K1 k2
  have B0_2 : Arr w.heap.size [.int .i64 p.1, .int .i64 p.2.1, .int .i64 p.2.2] w2 := B0_1.kept k2 (by omega)
  have B1_2 : Arr (w.heap.size + 1) [.int .i64 0, .int .i64 0, .int .i64 0] w2 := B1_1.kept k2 (by omega)
  have z2 := B1_2.lies
  clear K1 f1 B0_1 B1_1 k2
  have c3_B1_0 : w2.cell? ⟨w.heap.size + 1, 0, none⟩ = some (.int .i64 0) := B1_2.c 0 (zD rfl)
  have c3_B1_1 : w2.cell? ⟨w.heap.size + 1, 1, none⟩ = some (.int .i64 0) := B1_2.c 1 (zD rfl)
  have c3_B1_2 : w2.cell? ⟨w.heap.size + 1, 2, none⟩ = some (.int .i64 0) := B1_2.c 2 (zD rfl)
  have g3_B1_0 := B1_2.f 0 (zD rfl)
  have g3_B1_1 := B1_2.f 1 (zD rfl)
  have g3_B1_2 := B1_2.f 2 (zD rfl)
  go_wp2
  clear c3_B1_0 c3_B1_1 c3_B1_2 g3_B1_0 g3_B1_1 g3_B1_2
  have d0 := Arr.c (B1_2.put 0 (zD rfl) (.int .i64 0) [.int .i64 0, .int .i64 0, .int .i64 0] rfl) 0 (zD rfl)
  have d1 := Arr.c ((B1_2.put 0 (zD rfl) (.int .i64 0) [.int .i64 0, .int .i64 0, .int .i64 0] rfl).put 1 (zD rfl) (.int .i64 0) [.int .i64 0, .int .i64 0, .int .i64 0] rfl) 1 (zD rfl)
  have d2 := Arr.c (((B1_2.put 0 (zD rfl) (.int .i64 0) [.int .i64 0, .int .i64 0, .int .i64 0] rfl).put 1 (zD rfl) (.int .i64 0) [.int .i64 0, .int .i64 0, .int .i64 0] rfl).put 2 (zD rfl) (.int .i64 0) [.int .i64 0, .int .i64 0, .int .i64 0] rfl) 2 (zD rfl)
  refine bodyPost_ret (v := .agg #[.int .i64 0, .int .i64 0, .int .i64 0]) (by simp [results, Tryz.results94, go_sem, d0, d1, d2]) rfl ?_
  have hs : vUnitS bad p = ((0, 0, 0), true) := by unfold vUnitS; simp only [E1.out]; rw [if_pos (by have := Hhc1.out; omega)]
  rw [hs]
  exact ⟨rfl, (((f2.new _ _ (by omega) _).new _ _ (by omega) _).new _ _ (by omega) _), (((K2.new _ _ (by omega) _).new _ _ (by omega) _).new _ _ (by omega) _)⟩
 ·have Hhc1 : Hid (¬ r1.1 < 1048576) := hc1
  go_wp2_with fail
  refine wp_region_held_drew (S := fun w' => Arr w.heap.size [.int .i64 p.1, .int .i64 p.2.1, .int .i64 p.2.2] w') (by kernel_rfl) B0_1.drew (fun hHeld => ?_)
  refine zT (i := 0) (v := ?v102) rfl (by kernel_rfl) (fun _ _ _ h => h) (by rfl) ?y102 hHeld ?t102
  case y102 => (intro wx hSw; go_simp <;> with_reducible rfl)
  simp only [Act.put, zA, zB, zC]
  refine zT (i := 1) (v := ?v103) rfl (by kernel_rfl) (fun _ _ _ h => h) (by rfl) ?y103 hHeld ?t103
  case y103 => (intro wx hSw; go_simp <;> with_reducible rfl)
  simp only [Act.put, zA, zB, zC]
  refine zT (i := 2) (v := ?v104) rfl (by kernel_rfl) (fun _ _ _ h => h) (by rfl) ?y104 hHeld ?t104
  case y104 => (intro wx hSw; have hc0 : wx.cell? ⟨w.heap.size, 0, none⟩ = some (.int .i64 p.1) := hSw.c 0 (zD rfl); go_simp <;> with_reducible rfl)
  simp only [Act.put, zA, zB, zC]
  refine zT (i := 3) (v := ?v105) rfl (by kernel_rfl) (fun _ _ _ h => h) (by rfl) ?y105 hHeld ?t105
  case y105 => (intro wx hSw; go_simp <;> with_reducible rfl)
  simp only [Act.put, zA, zB, zC]
  refine zT (i := 5) (v := ?v106) rfl (by kernel_rfl) (fun _ _ _ h => h) (by rfl) ?y106 hHeld ?t106
  case y106 => (intro wx hSw; go_simp <;> with_reducible rfl)
  simp only [Act.put, zA, zB, zC]
  refine zT (i := 6) (v := ?v107) rfl (by kernel_rfl) (fun _ _ _ h => h) (by rfl) ?y107 hHeld ?t107
  case y107 => (intro wx hSw; go_simp <;> with_reducible rfl)
  simp only [Act.put, zA, zB, zC]
  refine zT (i := 7) (v := ?v108) rfl (by kernel_rfl) (fun _ _ _ h => h) (by rfl) ?y108 hHeld ?t108
  case y108 => (intro wx hSw; have hc1 : wx.cell? ⟨w.heap.size, 1, none⟩ = some (.int .i64 p.2.1) := hSw.c 1 (zD rfl); go_simp <;> with_reducible rfl)
  simp only [Act.put, zA, zB, zC]
  refine zT (i := 8) (v := ?v109) rfl (by kernel_rfl) (fun _ _ _ h => h) (by rfl) ?y109 hHeld ?t109
  case y109 => (intro wx hSw; go_simp <;> with_reducible rfl)
  simp only [Act.put, zA, zB, zC]
  refine zT (i := 10) (v := ?v110) rfl (by kernel_rfl) (fun _ _ _ h => h) (by rfl) ?y110 hHeld ?t110
  case y110 => (intro wx hSw; go_simp <;> with_reducible rfl)
  simp only [Act.put, zA, zB, zC]
  refine zT (i := 11) (v := ?v111) rfl (by kernel_rfl) (fun _ _ _ h => h) (by rfl) ?y111 hHeld ?t111
  case y111 => (intro wx hSw; go_simp <;> with_reducible rfl)
  simp only [Act.put, zA, zB, zC]
  refine zT (i := 12) (v := ?v112) rfl (by kernel_rfl) (fun _ _ _ h => h) (by rfl) ?y112 hHeld ?t112
  case y112 => (intro wx hSw; have hc2 : wx.cell? ⟨w.heap.size, 2, none⟩ = some (.int .i64 p.2.2) := hSw.c 2 (zD rfl); go_simp <;> with_reducible rfl)
  simp only [Act.put, zA, zB, zC]
  refine zT (i := 13) (v := ?v113) rfl (by kernel_rfl) (fun _ _ _ h => h) (by rfl) ?y113 hHeld ?t113
  case y113 => (intro wx hSw; go_simp <;> with_reducible rfl)
  simp only [Act.put, zA, zB, zC]
  refine call_at (i := 4) (by kernel_rfl) rfl (fun K hK => ?_)
  go_simp
  refine (Div_any b r1.2 p.1 r1.1 _ f1.drew).mono ?_
  rintro e w2 ⟨rfl, f2, k2⟩
  generalize e2 : divS r1.2 p.1 r1.1 = r2 at f2 ⊢
  have E2 : Hid _ := e2
  clear e2
  have K2 : Kept b w w2 := Kept.trans K1.drew k2
  have B0_2 : Arr w.heap.size [.int .i64 p.1, .int .i64 p.2.1, .int .i64 p.2.2] w2 := B0_1.drew.kept k2 (by omega)
  have B1_2 : Arr (w.heap.size + 1) [.int .i64 0, .int .i64 0, .int .i64 0] w2 := B1_1.drew.kept k2 (by omega)
  have z2 := B1_2.lies
  clear hHeld
  refine hK.out _ _ B0_2 (fun hHeld => ?_)
  clear hK K K1 f1 B0_1 B1_1 k2
  refine call_at (i := 9) (by kernel_rfl) rfl (fun K hK => ?_)
  go_simp
  refine (Div_any b r2.2 p.2.1 r1.1 _ f2).mono ?_
  rintro e w3 ⟨rfl, f3, k3⟩
  generalize e3 : divS r2.2 p.2.1 r1.1 = r3 at f3 ⊢
  have E3 : Hid _ := e3
  clear e3
  have K3 := Kept.trans K2 k3
  have B0_3 : Arr w.heap.size [.int .i64 p.1, .int .i64 p.2.1, .int .i64 p.2.2] w3 := B0_2.kept k3 (by omega)
  have B1_3 : Arr (w.heap.size + 1) [.int .i64 0, .int .i64 0, .int .i64 0] w3 := B1_2.kept k3 (by omega)
  have z3 := B1_3.lies
  clear hHeld
  refine hK.out _ _ B0_3 (fun hHeld => ?_)
  clear hK K K2 f2 B0_2 B1_2 k3
  refine call_at (i := 14) (by kernel_rfl) rfl (fun K hK => ?_)
  go_simp
  refine (Div_any b r3.2 p.2.2 r1.1 _ f3).mono ?_
  rintro e w4 ⟨rfl, f4, k4⟩
  generalize e4 : divS r3.2 p.2.2 r1.1 = r4 at f4 ⊢
  have E4 : Hid _ := e4
  clear e4
  have K4 := Kept.trans K3 k4
  have B0_4 : Arr w.heap.size [.int .i64 p.1, .int .i64 p.2.1, .int .i64 p.2.2] w4 := B0_3.kept k4 (by omega)
  have B1_4 : Arr (w.heap.size + 1) [.int .i64 0, .int .i64 0, .int .i64 0] w4 := B1_3.kept k4 (by omega)
  have z4 := B1_4.lies
  clear hHeld
  refine hK.out _ _ B0_4 (fun hHeld => ?_)
  clear hK K K3 f3 B0_3 B1_3 k4
  refine zT (i := 15) (v := ?v114) rfl (by kernel_rfl) (fun _ _ _ h => h) (by rfl) ?y114 hHeld ?t114
  case y114 => (intro wx hSw; go_simp <;> with_reducible rfl)
  simp only [Act.put, zA, zB, zC]
  refine call_at (i := 16) (by kernel_rfl) rfl (fun K hK => ?_)
  have c3_B1_0 : w4.cell? ⟨w.heap.size + 1, 0, none⟩ = some (.int .i64 0) := B1_4.c 0 (zD rfl)
  have c3_B1_1 : w4.cell? ⟨w.heap.size + 1, 1, none⟩ = some (.int .i64 0) := B1_4.c 1 (zD rfl)
  have c3_B1_2 : w4.cell? ⟨w.heap.size + 1, 2, none⟩ = some (.int .i64 0) := B1_4.c 2 (zD rfl)
  have g3_B1_0 := B1_4.f 0 (zD rfl)
  have g3_B1_1 := B1_4.f 1 (zD rfl)
  have g3_B1_2 := B1_4.f 2 (zD rfl)
  go_simp
  clear hHeld
  refine hK.out _ _ (((B0_4.new _ _ (by omega) _).new _ _ (by omega) _).new _ _ (by omega) _) (fun hHeld => ?_)
  clear hK K c3_B1_0 c3_B1_1 c3_B1_2 g3_B1_0 g3_B1_1 g3_B1_2
  refine wpAnyH_done (by kernel_rfl) ?_ _
  clear hHeld
  go_wp2
  have d0 := Arr.c (B1_4.put 0 (zD rfl) (.int .i64 r2.1) [.int .i64 r2.1, .int .i64 0, .int .i64 0] rfl) 0 (zD rfl)
  have d1 := Arr.c ((B1_4.put 0 (zD rfl) (.int .i64 r2.1) [.int .i64 r2.1, .int .i64 0, .int .i64 0] rfl).put 1 (zD rfl) (.int .i64 r3.1) [.int .i64 r2.1, .int .i64 r3.1, .int .i64 0] rfl) 1 (zD rfl)
  have d2 := Arr.c (((B1_4.put 0 (zD rfl) (.int .i64 r2.1) [.int .i64 r2.1, .int .i64 0, .int .i64 0] rfl).put 1 (zD rfl) (.int .i64 r3.1) [.int .i64 r2.1, .int .i64 r3.1, .int .i64 0] rfl).put 2 (zD rfl) (.int .i64 r4.1) [.int .i64 r2.1, .int .i64 r3.1, .int .i64 r4.1] rfl) 2 (zD rfl)
  refine bodyPost_ret (v := .agg #[.int .i64 r2.1, .int .i64 r3.1, .int .i64 r4.1]) (by simp [results, Tryz.results94, go_sem, d0, d1, d2]) rfl ?_
  have hs : vUnitS bad p = ((r2.1, r3.1, r4.1), r4.2) := by unfold vUnitS; simp only [E1.out, E2.out, E3.out, E4.out]; rw [if_neg (by have := Hhc1.out; omega)]
  rw [hs]
  exact ⟨rfl, (((f4.new _ _ (by omega) _).new _ _ (by omega) _).new _ _ (by omega) _), (((K4.new _ _ (by omega) _).new _ _ (by omega) _).new _ _ (by omega) _)⟩
end Go.Proofs.YtpjobkbefgehjaaGreat
