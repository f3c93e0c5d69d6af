/- A part. -/
import Derived.Test.YtpjobkbefgehjaaGreatJA
import Derived.Test.YtpjobkbefgehjaaGreatJC
import Derived.Test.YtpjobkbefgehjaaGreatJT
import Derived.Handy
import Derived.Deep.RegionHeld3
namespace Go.Proofs.YtpjobkbefgehjaaGreat
open Go.RowKit
set_option maxRecDepth 100000
set_option maxHeartbeats 20000000
theorem done_any (b : Nat) (bad : Bool) (v : V3) (w : World) (hw : Fl b bad w) :
  Calls Tryz.prog 82 #[.pointer (some ⟨b, 0, none⟩), .agg #[.int .i64 v.1, .int .i64 v.2.1, .int .i64 v.2.2]] w fun e w' => e = .returned (.agg #[.int .i64 (soundS bad v).1.1, .int .i64 (soundS bad v).1.2.1, .int .i64 (soundS bad v).1.2.2]) ∧ Fl b (soundS bad v).2 w' ∧ Kept b w w' := by
 have hc := hw.cell
 have hl := hw.lies
 have HW : Hid _ := hw
 clear hw
 cases bad
 ·go_enter Tryz.func82, Tryz.ntmps82
  go_wp2
  refine bodyPost_ret (v := .agg #[.int .i64 v.1, .int .i64 v.2.1, .int .i64 v.2.2]) (by simp [results, Tryz.results82, go_sem]) rfl ?_
  exact ⟨rfl, (HW.out.alloc _).alloc _, ((Kept.refl _ _).al _).al _⟩
 ·go_enter Tryz.func82, Tryz.ntmps82
  go_wp2
  refine bodyPost_ret (v := .agg #[.int .i64 0, .int .i64 0, .int .i64 0]) (by simp [results, Tryz.results82, go_sem]) rfl ?_
  exact ⟨rfl, (HW.out.alloc _).alloc _, ((Kept.refl _ _).al _).al _⟩
theorem uAdd_any (b : Nat) (bad : Bool) (p : V3) (q : V3) (w : World) (hw : Fl b bad w) :
  Calls Tryz.prog 41 #[.pointer (some ⟨b, 0, none⟩), .agg #[.int .i64 p.1, .int .i64 p.2.1, .int .i64 p.2.2], .agg #[.int .i64 q.1, .int .i64 q.2.1, .int .i64 q.2.2]] w fun e w' => e = .returned (.agg #[.int .i64 ((uAddS bad p q).1.1), .int .i64 ((uAddS bad p q).1.2.1), .int .i64 ((uAddS bad p q).1.2.2)]) ∧ Fl b (uAddS bad p q).2 w' ∧ Kept b w w' := by
 have hl := hw.lies
 go_enter Tryz.func41, Tryz.ntmps41
 go_wp2_with fail
 refine wp_loop_rounds 4 ?_
 rw [rounds_succ]
 go_wp2_with fail
 refine wp_region_held_drew (S := fun w' => Arr w.heap.size [.int .i64 p.1, .int .i64 p.2.1, .int .i64 p.2.2] w' ∧ Arr (w.heap.size + 1) [.int .i64 q.1, .int .i64 q.2.1, .int .i64 q.2.2] w') (by kernel_rfl) ⟨((((Arr_at _ _ [.int .i64 p.1, .int .i64 p.2.1, .int .i64 p.2.2] _ (by simp)).alloc _).alloc _).alloc _).drew, (((Arr_at _ _ [.int .i64 q.1, .int .i64 q.2.1, .int .i64 q.2.2] _ (by simp)).alloc _).alloc _).drew⟩ (fun zH => ?_)
 refine zT 0 rfl (by kernel_rfl) (fun _ _ _ => id) rfl (fun _ _ => by go_simp <;> with_reducible rfl) zH ?_
 simp only [Act.put, zA, zB, zC]
 refine zT 1 rfl (by kernel_rfl) (fun _ _ _ => id) rfl (fun _ _ => by go_simp <;> with_reducible rfl) zH ?_
 simp only [Act.put, zA, zB, zC]
 refine zT 2 rfl (by kernel_rfl) (fun _ _ _ => id) rfl (fun _ _ => by go_simp <;> with_reducible rfl) zH ?_
 simp only [Act.put, zA, zB, zC]
 refine zT 3 rfl (by kernel_rfl) (fun _ _ _ => id) rfl (fun _ _ => by go_simp <;> with_reducible rfl) zH ?_
 simp only [Act.put, zA, zB, zC]
 refine zT 4 rfl (by kernel_rfl) (fun _ _ _ => id) rfl (fun wx hS => by have hc0 : wx.cell? ⟨w.heap.size, 0, none⟩ = some (.int .i64 p.1) := hS.1.c 0 (zD rfl); go_simp <;> with_reducible rfl) zH ?_
 simp only [Act.put, zA, zB, zC]
 refine zT 5 rfl (by kernel_rfl) (fun _ _ _ => id) rfl (fun _ _ => by go_simp <;> with_reducible rfl) zH ?_
 simp only [Act.put, zA, zB, zC]
 refine zT 6 rfl (by kernel_rfl) (fun _ _ _ => id) rfl (fun _ _ => by go_simp <;> with_reducible rfl) zH ?_
 simp only [Act.put, zA, zB, zC]
 refine zT 7 rfl (by kernel_rfl) (fun _ _ _ => id) rfl (fun wx hS => by have hc0 : wx.cell? ⟨w.heap.size + 1, 0, none⟩ = some (.int .i64 q.1) := hS.2.c 0 (zD rfl); go_simp <;> with_reducible rfl) zH ?_
 simp only [Act.put, zA, zB, zC]
 refine zK 8 (by kernel_rfl) rfl (fun K hK => ?_)
 go_simp
 refine (rAdd_any b bad p.1 q.1 _ ((((hw.alloc _).alloc _).alloc _).alloc _).drew).mono ?_
 rintro e w1 ⟨rfl, f1, k1⟩
 generalize e1 : addS bad p.1 q.1 = r1 at f1 ⊢
 have E1 : Hid _ := e1
 clear e1
 have K1 : Kept b w w1 := Kept.trans (((((Kept.refl b w).al _).al _).al _).al _).drew k1
 have B0_1 : Arr w.heap.size [.int .i64 p.1, .int .i64 p.2.1, .int .i64 p.2.2] w1 := ((((Arr_at _ _ [.int .i64 p.1, .int .i64 p.2.1, .int .i64 p.2.2] _ (by simp)).alloc _).alloc _).alloc _).drew.kept k1 (by omega)
 have B1_1 : Arr (w.heap.size + 1) [.int .i64 q.1, .int .i64 q.2.1, .int .i64 q.2.2] w1 := (((Arr_at _ _ [.int .i64 q.1, .int .i64 q.2.1, .int .i64 q.2.2] _ (by simp)).alloc _).alloc _).drew.kept k1 (by omega)
 have B2_1 : Arr (w.heap.size + 1 + 1) [.int .i64 0, .int .i64 0, .int .i64 0] w1 := ((Arr_at _ _ [.int .i64 0, .int .i64 0, .int .i64 0] _ (by simp)).alloc _).drew.kept k1 (by omega)
 have B3_1 : Arr (w.heap.size + 1 + 1 + 1) [.int .i64 0, .int .i64 0, .int .i64 0] w1 := (Arr_at _ _ [.int .i64 0, .int .i64 0, .int .i64 0] _ (by simp)).drew.kept k1 (by omega)
 have z1 := B3_1.lies
 clear zH
 refine hK.out _ _ ⟨B0_1, B1_1⟩ (fun zH => ?_)
 clear hK K k1
 refine zT 9 rfl (by kernel_rfl) (fun _ _ _ => id) rfl (fun _ _ => by go_simp <;> with_reducible rfl) zH ?_
 simp only [Act.put, zA, zB, zC]
 refine zK 10 (by kernel_rfl) rfl (fun K hK => ?_)
 have c3_B3_0 : w1.cell? ⟨w.heap.size + 1 + 1 + 1, 0, none⟩ = some (.int .i64 0) := B3_1.c 0 (zD rfl)
 have g3_B3_0 := B3_1.f 0 (zD rfl)
 go_simp
 clear zH
 refine hK.out _ _ ⟨(B0_1.new _ _ (by omega) _), (B1_1.new _ _ (by omega) _)⟩ (fun zH => ?_)
 clear hK K c3_B3_0 g3_B3_0
 refine wpAnyH_done (by kernel_rfl) ?_ _
 clear zH
 go_wp2_with fail
 rw [rounds_succ]
 go_wp2_with fail
 refine wp_region_held_drew (S := fun w' => Arr w.heap.size [.int .i64 p.1, .int .i64 p.2.1, .int .i64 p.2.2] w' ∧ Arr (w.heap.size + 1) [.int .i64 q.1, .int .i64 q.2.1, .int .i64 q.2.2] w') (by kernel_rfl) ⟨(B0_1.new _ _ (by omega) _).drew, (B1_1.new _ _ (by omega) _).drew⟩ (fun zH => ?_)
 refine zT 0 rfl (by kernel_rfl) (fun _ _ _ => id) rfl (fun _ _ => by go_simp <;> with_reducible rfl) zH ?_
 simp only [Act.put, zA, zB, zC]
 refine zT 1 rfl (by kernel_rfl) (fun _ _ _ => id) rfl (fun _ _ => by go_simp <;> with_reducible rfl) zH ?_
 simp only [Act.put, zA, zB, zC]
 refine zT 2 rfl (by kernel_rfl) (fun _ _ _ => id) rfl (fun _ _ => by go_simp <;> with_reducible rfl) zH ?_
 simp only [Act.put, zA, zB, zC]
 refine zT 3 rfl (by kernel_rfl) (fun _ _ _ => id) rfl (fun _ _ => by go_simp <;> with_reducible rfl) zH ?_
 simp only [Act.put, zA, zB, zC]
 refine zT 4 rfl (by kernel_rfl) (fun _ _ _ => id) rfl (fun wx hS => by have hc1 : wx.cell? ⟨w.heap.size, 1, none⟩ = some (.int .i64 p.2.1) := hS.1.c 1 (zD rfl); go_simp <;> with_reducible rfl) zH ?_
 simp only [Act.put, zA, zB, zC]
 refine zT 5 rfl (by kernel_rfl) (fun _ _ _ => id) rfl (fun _ _ => by go_simp <;> with_reducible rfl) zH ?_
 simp only [Act.put, zA, zB, zC]
 refine zT 6 rfl (by kernel_rfl) (fun _ _ _ => id) rfl (fun _ _ => by go_simp <;> with_reducible rfl) zH ?_
 simp only [Act.put, zA, zB, zC]
 refine zT 7 rfl (by kernel_rfl) (fun _ _ _ => id) rfl (fun wx hS => by have hc1 : wx.cell? ⟨w.heap.size + 1, 1, none⟩ = some (.int .i64 q.2.1) := hS.2.c 1 (zD rfl); go_simp <;> with_reducible rfl) zH ?_
 simp only [Act.put, zA, zB, zC]
 refine zK 8 (by kernel_rfl) rfl (fun K hK => ?_)
 go_simp
 refine (rAdd_any b r1.2 p.2.1 q.2.1 _ (f1.new _ _ (by omega) _).drew).mono ?_
 rintro e w2 ⟨rfl, f2, k2⟩
 generalize e2 : addS r1.2 p.2.1 q.2.1 = r2 at f2 ⊢
 have E2 : Hid _ := e2
 clear e2
 have K2 : Kept b w w2 := Kept.trans (K1.new _ _ (by omega) _).drew k2
 have B0_2 := (B0_1.new _ _ (by omega) _).drew.kept k2 (by omega)
 have B1_2 := (B1_1.new _ _ (by omega) _).drew.kept k2 (by omega)
 have B2_2 := (B2_1.new _ _ (by omega) _).drew.kept k2 (by omega)
 have B3_2 := (B3_1.put 0 (zD rfl) (.int .i64 r1.1) [.int .i64 r1.1, .int .i64 0, .int .i64 0] rfl).drew.kept k2 (by omega)
 have z2 := B3_2.lies
 clear zH
 refine hK.out _ _ ⟨B0_2, B1_2⟩ (fun zH => ?_)
 clear hK K K1 f1 B0_1 B1_1 B2_1 B3_1 k2
 refine zT 9 rfl (by kernel_rfl) (fun _ _ _ => id) rfl (fun _ _ => by go_simp <;> with_reducible rfl) zH ?_
 simp only [Act.put, zA, zB, zC]
 refine zK 10 (by kernel_rfl) rfl (fun K hK => ?_)
 have c6_B3_1 : w2.cell? ⟨w.heap.size + 1 + 1 + 1, 1, none⟩ = some (.int .i64 0) := B3_2.c 1 (zD rfl)
 have g6_B3_1 := B3_2.f 1 (zD rfl)
 go_simp
 clear zH
 refine hK.out _ _ ⟨(B0_2.new _ _ (by omega) _), (B1_2.new _ _ (by omega) _)⟩ (fun zH => ?_)
 clear hK K c6_B3_1 g6_B3_1
 refine wpAnyH_done (by kernel_rfl) ?_ _
 clear zH
 go_wp2_with fail
 rw [rounds_succ]
 go_wp2_with fail
 refine wp_region_held_drew (S := fun w' => Arr w.heap.size [.int .i64 p.1, .int .i64 p.2.1, .int .i64 p.2.2] w' ∧ Arr (w.heap.size + 1) [.int .i64 q.1, .int .i64 q.2.1, .int .i64 q.2.2] w') (by kernel_rfl) ⟨(B0_2.new _ _ (by omega) _).drew, (B1_2.new _ _ (by omega) _).drew⟩ (fun zH => ?_)
 refine zT 0 rfl (by kernel_rfl) (fun _ _ _ => id) rfl (fun _ _ => by go_simp <;> with_reducible rfl) zH ?_
 simp only [Act.put, zA, zB, zC]
 refine zT 1 rfl (by kernel_rfl) (fun _ _ _ => id) rfl (fun _ _ => by go_simp <;> with_reducible rfl) zH ?_
 simp only [Act.put, zA, zB, zC]
 refine zT 2 rfl (by kernel_rfl) (fun _ _ _ => id) rfl (fun _ _ => by go_simp <;> with_reducible rfl) zH ?_
 simp only [Act.put, zA, zB, zC]
 refine zT 3 rfl (by kernel_rfl) (fun _ _ _ => id) rfl (fun _ _ => by go_simp <;> with_reducible rfl) zH ?_
 simp only [Act.put, zA, zB, zC]
 refine zT 4 rfl (by kernel_rfl) (fun _ _ _ => id) rfl (fun wx hS => by have hc2 : wx.cell? ⟨w.heap.size, 2, none⟩ = some (.int .i64 p.2.2) := hS.1.c 2 (zD rfl); go_simp <;> with_reducible rfl) zH ?_
 simp only [Act.put, zA, zB, zC]
 refine zT 5 rfl (by kernel_rfl) (fun _ _ _ => id) rfl (fun _ _ => by go_simp <;> with_reducible rfl) zH ?_
 simp only [Act.put, zA, zB, zC]
 refine zT 6 rfl (by kernel_rfl) (fun _ _ _ => id) rfl (fun _ _ => by go_simp <;> with_reducible rfl) zH ?_
 simp only [Act.put, zA, zB, zC]
 refine zT 7 rfl (by kernel_rfl) (fun _ _ _ => id) rfl (fun wx hS => by have hc2 : wx.cell? ⟨w.heap.size + 1, 2, none⟩ = some (.int .i64 q.2.2) := hS.2.c 2 (zD rfl); go_simp <;> with_reducible rfl) zH ?_
 simp only [Act.put, zA, zB, zC]
 refine zK 8 (by kernel_rfl) rfl (fun K hK => ?_)
 go_simp
 refine (rAdd_any b r2.2 p.2.2 q.2.2 _ (f2.new _ _ (by omega) _).drew).mono ?_
 rintro e w3 ⟨rfl, f3, k3⟩
 generalize e3 : addS r2.2 p.2.2 q.2.2 = r3 at f3 ⊢
 have E3 : Hid _ := e3
 clear e3
 have K3 : Kept b w w3 := Kept.trans (K2.new _ _ (by omega) _).drew k3
 have B0_3 := (B0_2.new _ _ (by omega) _).drew.kept k3 (by omega)
 have B1_3 := (B1_2.new _ _ (by omega) _).drew.kept k3 (by omega)
 have B2_3 := (B2_2.new _ _ (by omega) _).drew.kept k3 (by omega)
 have B3_3 := (B3_2.put 1 (zD rfl) (.int .i64 r2.1) [.int .i64 r1.1, .int .i64 r2.1, .int .i64 0] rfl).drew.kept k3 (by omega)
 have z3 := B3_3.lies
 clear zH
 refine hK.out _ _ ⟨B0_3, B1_3⟩ (fun zH => ?_)
 clear hK K K2 f2 B0_2 B1_2 B2_2 B3_2 k3
 refine zT 9 rfl (by kernel_rfl) (fun _ _ _ => id) rfl (fun _ _ => by go_simp <;> with_reducible rfl) zH ?_
 simp only [Act.put, zA, zB, zC]
 refine zK 10 (by kernel_rfl) rfl (fun K hK => ?_)
 have c9_B3_2 : w3.cell? ⟨w.heap.size + 1 + 1 + 1, 2, none⟩ = some (.int .i64 0) := B3_3.c 2 (zD rfl)
 have g9_B3_2 := B3_3.f 2 (zD rfl)
 go_simp
 clear zH
 refine hK.out _ _ ⟨(B0_3.new _ _ (by omega) _), (B1_3.new _ _ (by omega) _)⟩ (fun zH => ?_)
 clear hK K c9_B3_2 g9_B3_2
 refine wpAnyH_done (by kernel_rfl) ?_ _
 clear zH
 go_wp2_with fail
 rw [rounds_succ]
 have c11_B3_0 : w3.cell? ⟨w.heap.size + 1 + 1 + 1, 0, none⟩ = some (.int .i64 r1.1) := B3_3.c 0 (zD rfl)
 have c11_B3_1 : w3.cell? ⟨w.heap.size + 1 + 1 + 1, 1, none⟩ = some (.int .i64 r2.1) := B3_3.c 1 (zD rfl)
 have c11_B3_2 : w3.cell? ⟨w.heap.size + 1 + 1 + 1, 2, none⟩ = some (.int .i64 0) := B3_3.c 2 (zD rfl)
 go_wp2_with fail
 refine (done_any b r3.2 (r1.1, r2.1, r3.1) _ (f3.new _ _ (by omega) _)).mono ?_
 rintro e w4 ⟨rfl, f4, k4⟩
 generalize e4 : soundS r3.2 (r1.1, r2.1, r3.1) = r4 at f4 ⊢
 have E4 : Hid _ := e4
 clear e4
 have K4 : Kept b w w4 := Kept.trans (K3.new _ _ (by omega) _) k4
 have B0_4 := (B0_3.new _ _ (by omega) _).kept k4 (by omega)
 have B1_4 := (B1_3.new _ _ (by omega) _).kept k4 (by omega)
 have B2_4 := (B2_3.new _ _ (by omega) _).kept k4 (by omega)
 have B3_4 := (B3_3.put 2 (zD rfl) (.int .i64 r3.1) [.int .i64 r1.1, .int .i64 r2.1, .int .i64 r3.1] rfl).kept k4 (by omega)
 have z4 := B3_4.lies
 clear c11_B3_0 c11_B3_1 c11_B3_2 K3 f3 B0_3 B1_3 B2_3 B3_3 k4
 have c12_B2_0 : w4.cell? ⟨w.heap.size + 1 + 1, 0, none⟩ = some (.int .i64 0) := B2_4.c 0 (zD rfl)
 have c12_B2_1 : w4.cell? ⟨w.heap.size + 1 + 1, 1, none⟩ = some (.int .i64 0) := B2_4.c 1 (zD rfl)
 have c12_B2_2 : w4.cell? ⟨w.heap.size + 1 + 1, 2, none⟩ = some (.int .i64 0) := B2_4.c 2 (zD rfl)
 have g12_B2_0 := B2_4.f 0 (zD rfl)
 have g12_B2_1 := B2_4.f 1 (zD rfl)
 have g12_B2_2 := B2_4.f 2 (zD rfl)
 go_wp2
 clear c12_B2_0 c12_B2_1 c12_B2_2 g12_B2_0 g12_B2_1 g12_B2_2
 have d0 := Arr.c (B2_4.put 0 (zD rfl) (.int .i64 r4.1.1) [.int .i64 r4.1.1, .int .i64 0, .int .i64 0] rfl) 0 (zD rfl)
 have d1 := Arr.c ((B2_4.put 0 (zD rfl) (.int .i64 r4.1.1) [.int .i64 r4.1.1, .int .i64 0, .int .i64 0] rfl).put 1 (zD rfl) (.int .i64 r4.1.2.1) [.int .i64 r4.1.1, .int .i64 r4.1.2.1, .int .i64 0] rfl) 1 (zD rfl)
 have d2 := Arr.c (((B2_4.put 0 (zD rfl) (.int .i64 r4.1.1) [.int .i64 r4.1.1, .int .i64 0, .int .i64 0] rfl).put 1 (zD rfl) (.int .i64 r4.1.2.1) [.int .i64 r4.1.1, .int .i64 r4.1.2.1, .int .i64 0] rfl).put 2 (zD rfl) (.int .i64 r4.1.2.2) [.int .i64 r4.1.1, .int .i64 r4.1.2.1, .int .i64 r4.1.2.2] rfl) 2 (zD rfl)
 refine bodyPost_ret (v := .agg #[.int .i64 r4.1.1, .int .i64 r4.1.2.1, .int .i64 r4.1.2.2]) (by simp [results, Tryz.results41, go_sem, d0, d1, d2]) rfl ?_
 have hs : uAddS bad p q = (r4.1, r4.2) := by unfold uAddS; simp only [E1.out, E2.out, E3.out, E4.out]
 rw [hs]
 exact ⟨rfl, (((f4.new _ _ (by omega) _).new _ _ (by omega) _).new _ _ (by omega) _), (((K4.new _ _ (by omega) _).new _ _ (by omega) _).new _ _ (by omega) _)⟩
theorem uSub_any (b : Nat) (bad : Bool) (p : V3) (q : V3) (w : World) (hw : Fl b bad w) :
  Calls Tryz.prog 27 #[.pointer (some ⟨b, 0, none⟩), .agg #[.int .i64 p.1, .int .i64 p.2.1, .int .i64 p.2.2], .agg #[.int .i64 q.1, .int .i64 q.2.1, .int .i64 q.2.2]] w fun e w' => e = .returned (.agg #[.int .i64 ((uSubS bad p q).1.1), .int .i64 ((uSubS bad p q).1.2.1), .int .i64 ((uSubS bad p q).1.2.2)]) ∧ Fl b (uSubS bad p q).2 w' ∧ Kept b w w' := by
 have hl := hw.lies
 go_enter Tryz.func27, Tryz.ntmps27
 go_wp2_with fail
 refine wp_loop_rounds 4 ?_
 rw [rounds_succ]
 go_wp2_with fail
 refine wp_region_held_drew (S := fun w' => Arr w.heap.size [.int .i64 p.1, .int .i64 p.2.1, .int .i64 p.2.2] w' ∧ Arr (w.heap.size + 1) [.int .i64 q.1, .int .i64 q.2.1, .int .i64 q.2.2] w') (by kernel_rfl) ⟨((((Arr_at _ _ [.int .i64 p.1, .int .i64 p.2.1, .int .i64 p.2.2] _ (by simp)).alloc _).alloc _).alloc _).drew, (((Arr_at _ _ [.int .i64 q.1, .int .i64 q.2.1, .int .i64 q.2.2] _ (by simp)).alloc _).alloc _).drew⟩ (fun zH => ?_)
 refine zT 0 rfl (by kernel_rfl) (fun _ _ _ => id) rfl (fun _ _ => by go_simp <;> with_reducible rfl) zH ?_
 simp only [Act.put, zA, zB, zC]
 refine zT 1 rfl (by kernel_rfl) (fun _ _ _ => id) rfl (fun _ _ => by go_simp <;> with_reducible rfl) zH ?_
 simp only [Act.put, zA, zB, zC]
 refine zT 2 rfl (by kernel_rfl) (fun _ _ _ => id) rfl (fun _ _ => by go_simp <;> with_reducible rfl) zH ?_
 simp only [Act.put, zA, zB, zC]
 refine zT 3 rfl (by kernel_rfl) (fun _ _ _ => id) rfl (fun _ _ => by go_simp <;> with_reducible rfl) zH ?_
 simp only [Act.put, zA, zB, zC]
 refine zT 4 rfl (by kernel_rfl) (fun _ _ _ => id) rfl (fun wx hS => by have hc0 : wx.cell? ⟨w.heap.size, 0, none⟩ = some (.int .i64 p.1) := hS.1.c 0 (zD rfl); go_simp <;> with_reducible rfl) zH ?_
 simp only [Act.put, zA, zB, zC]
 refine zT 5 rfl (by kernel_rfl) (fun _ _ _ => id) rfl (fun _ _ => by go_simp <;> with_reducible rfl) zH ?_
 simp only [Act.put, zA, zB, zC]
 refine zT 6 rfl (by kernel_rfl) (fun _ _ _ => id) rfl (fun _ _ => by go_simp <;> with_reducible rfl) zH ?_
 simp only [Act.put, zA, zB, zC]
 refine zT 7 rfl (by kernel_rfl) (fun _ _ _ => id) rfl (fun wx hS => by have hc0 : wx.cell? ⟨w.heap.size + 1, 0, none⟩ = some (.int .i64 q.1) := hS.2.c 0 (zD rfl); go_simp <;> with_reducible rfl) zH ?_
 simp only [Act.put, zA, zB, zC]
 refine zK 8 (by kernel_rfl) rfl (fun K hK => ?_)
 go_simp
 refine (rSub_any b bad p.1 q.1 _ ((((hw.alloc _).alloc _).alloc _).alloc _).drew).mono ?_
 rintro e w1 ⟨rfl, f1, k1⟩
 generalize e1 : subS bad p.1 q.1 = r1 at f1 ⊢
 have E1 : Hid _ := e1
 clear e1
 have K1 : Kept b w w1 := Kept.trans (((((Kept.refl b w).al _).al _).al _).al _).drew k1
 have B0_1 : Arr w.heap.size [.int .i64 p.1, .int .i64 p.2.1, .int .i64 p.2.2] w1 := ((((Arr_at _ _ [.int .i64 p.1, .int .i64 p.2.1, .int .i64 p.2.2] _ (by simp)).alloc _).alloc _).alloc _).drew.kept k1 (by omega)
 have B1_1 : Arr (w.heap.size + 1) [.int .i64 q.1, .int .i64 q.2.1, .int .i64 q.2.2] w1 := (((Arr_at _ _ [.int .i64 q.1, .int .i64 q.2.1, .int .i64 q.2.2] _ (by simp)).alloc _).alloc _).drew.kept k1 (by omega)
 have B2_1 : Arr (w.heap.size + 1 + 1) [.int .i64 0, .int .i64 0, .int .i64 0] w1 := ((Arr_at _ _ [.int .i64 0, .int .i64 0, .int .i64 0] _ (by simp)).alloc _).drew.kept k1 (by omega)
 have B3_1 : Arr (w.heap.size + 1 + 1 + 1) [.int .i64 0, .int .i64 0, .int .i64 0] w1 := (Arr_at _ _ [.int .i64 0, .int .i64 0, .int .i64 0] _ (by simp)).drew.kept k1 (by omega)
 have z1 := B3_1.lies
 clear zH
 refine hK.out _ _ ⟨B0_1, B1_1⟩ (fun zH => ?_)
 clear hK K k1
 refine zT 9 rfl (by kernel_rfl) (fun _ _ _ => id) rfl (fun _ _ => by go_simp <;> with_reducible rfl) zH ?_
 simp only [Act.put, zA, zB, zC]
 refine zK 10 (by kernel_rfl) rfl (fun K hK => ?_)
 have c3_B3_0 : w1.cell? ⟨w.heap.size + 1 + 1 + 1, 0, none⟩ = some (.int .i64 0) := B3_1.c 0 (zD rfl)
 have g3_B3_0 := B3_1.f 0 (zD rfl)
 go_simp
 clear zH
 refine hK.out _ _ ⟨(B0_1.new _ _ (by omega) _), (B1_1.new _ _ (by omega) _)⟩ (fun zH => ?_)
 clear hK K c3_B3_0 g3_B3_0
 refine wpAnyH_done (by kernel_rfl) ?_ _
 clear zH
 go_wp2_with fail
 rw [rounds_succ]
 go_wp2_with fail
 refine wp_region_held_drew (S := fun w' => Arr w.heap.size [.int .i64 p.1, .int .i64 p.2.1, .int .i64 p.2.2] w' ∧ Arr (w.heap.size + 1) [.int .i64 q.1, .int .i64 q.2.1, .int .i64 q.2.2] w') (by kernel_rfl) ⟨(B0_1.new _ _ (by omega) _).drew, (B1_1.new _ _ (by omega) _).drew⟩ (fun zH => ?_)
 refine zT 0 rfl (by kernel_rfl) (fun _ _ _ => id) rfl (fun _ _ => by go_simp <;> with_reducible rfl) zH ?_
 simp only [Act.put, zA, zB, zC]
 refine zT 1 rfl (by kernel_rfl) (fun _ _ _ => id) rfl (fun _ _ => by go_simp <;> with_reducible rfl) zH ?_
 simp only [Act.put, zA, zB, zC]
 refine zT 2 rfl (by kernel_rfl) (fun _ _ _ => id) rfl (fun _ _ => by go_simp <;> with_reducible rfl) zH ?_
 simp only [Act.put, zA, zB, zC]
 refine zT 3 rfl (by kernel_rfl) (fun _ _ _ => id) rfl (fun _ _ => by go_simp <;> with_reducible rfl) zH ?_
 simp only [Act.put, zA, zB, zC]
 refine zT 4 rfl (by kernel_rfl) (fun _ _ _ => id) rfl (fun wx hS => by have hc1 : wx.cell? ⟨w.heap.size, 1, none⟩ = some (.int .i64 p.2.1) := hS.1.c 1 (zD rfl); go_simp <;> with_reducible rfl) zH ?_
 simp only [Act.put, zA, zB, zC]
 refine zT 5 rfl (by kernel_rfl) (fun _ _ _ => id) rfl (fun _ _ => by go_simp <;> with_reducible rfl) zH ?_
 simp only [Act.put, zA, zB, zC]
 refine zT 6 rfl (by kernel_rfl) (fun _ _ _ => id) rfl (fun _ _ => by go_simp <;> with_reducible rfl) zH ?_
 simp only [Act.put, zA, zB, zC]
 refine zT 7 rfl (by kernel_rfl) (fun _ _ _ => id) rfl (fun wx hS => by have hc1 : wx.cell? ⟨w.heap.size + 1, 1, none⟩ = some (.int .i64 q.2.1) := hS.2.c 1 (zD rfl); go_simp <;> with_reducible rfl) zH ?_
 simp only [Act.put, zA, zB, zC]
 refine zK 8 (by kernel_rfl) rfl (fun K hK => ?_)
 go_simp
 refine (rSub_any b r1.2 p.2.1 q.2.1 _ (f1.new _ _ (by omega) _).drew).mono ?_
 rintro e w2 ⟨rfl, f2, k2⟩
 generalize e2 : subS r1.2 p.2.1 q.2.1 = r2 at f2 ⊢
 have E2 : Hid _ := e2
 clear e2
 have K2 : Kept b w w2 := Kept.trans (K1.new _ _ (by omega) _).drew k2
 have B0_2 := (B0_1.new _ _ (by omega) _).drew.kept k2 (by omega)
 have B1_2 := (B1_1.new _ _ (by omega) _).drew.kept k2 (by omega)
 have B2_2 := (B2_1.new _ _ (by omega) _).drew.kept k2 (by omega)
 have B3_2 := (B3_1.put 0 (zD rfl) (.int .i64 r1.1) [.int .i64 r1.1, .int .i64 0, .int .i64 0] rfl).drew.kept k2 (by omega)
 have z2 := B3_2.lies
 clear zH
 refine hK.out _ _ ⟨B0_2, B1_2⟩ (fun zH => ?_)
 clear hK K K1 f1 B0_1 B1_1 B2_1 B3_1 k2
 refine zT 9 rfl (by kernel_rfl) (fun _ _ _ => id) rfl (fun _ _ => by go_simp <;> with_reducible rfl) zH ?_
 simp only [Act.put, zA, zB, zC]
 refine zK 10 (by kernel_rfl) rfl (fun K hK => ?_)
 have c6_B3_1 : w2.cell? ⟨w.heap.size + 1 + 1 + 1, 1, none⟩ = some (.int .i64 0) := B3_2.c 1 (zD rfl)
 have g6_B3_1 := B3_2.f 1 (zD rfl)
 go_simp
 clear zH
 refine hK.out _ _ ⟨(B0_2.new _ _ (by omega) _), (B1_2.new _ _ (by omega) _)⟩ (fun zH => ?_)
 clear hK K c6_B3_1 g6_B3_1
 refine wpAnyH_done (by kernel_rfl) ?_ _
 clear zH
 go_wp2_with fail
 rw [rounds_succ]
 go_wp2_with fail
 refine wp_region_held_drew (S := fun w' => Arr w.heap.size [.int .i64 p.1, .int .i64 p.2.1, .int .i64 p.2.2] w' ∧ Arr (w.heap.size + 1) [.int .i64 q.1, .int .i64 q.2.1, .int .i64 q.2.2] w') (by kernel_rfl) ⟨(B0_2.new _ _ (by omega) _).drew, (B1_2.new _ _ (by omega) _).drew⟩ (fun zH => ?_)
 refine zT 0 rfl (by kernel_rfl) (fun _ _ _ => id) rfl (fun _ _ => by go_simp <;> with_reducible rfl) zH ?_
 simp only [Act.put, zA, zB, zC]
 refine zT 1 rfl (by kernel_rfl) (fun _ _ _ => id) rfl (fun _ _ => by go_simp <;> with_reducible rfl) zH ?_
 simp only [Act.put, zA, zB, zC]
 refine zT 2 rfl (by kernel_rfl) (fun _ _ _ => id) rfl (fun _ _ => by go_simp <;> with_reducible rfl) zH ?_
 simp only [Act.put, zA, zB, zC]
 refine zT 3 rfl (by kernel_rfl) (fun _ _ _ => id) rfl (fun _ _ => by go_simp <;> with_reducible rfl) zH ?_
 simp only [Act.put, zA, zB, zC]
 refine zT 4 rfl (by kernel_rfl) (fun _ _ _ => id) rfl (fun wx hS => by have hc2 : wx.cell? ⟨w.heap.size, 2, none⟩ = some (.int .i64 p.2.2) := hS.1.c 2 (zD rfl); go_simp <;> with_reducible rfl) zH ?_
 simp only [Act.put, zA, zB, zC]
 refine zT 5 rfl (by kernel_rfl) (fun _ _ _ => id) rfl (fun _ _ => by go_simp <;> with_reducible rfl) zH ?_
 simp only [Act.put, zA, zB, zC]
 refine zT 6 rfl (by kernel_rfl) (fun _ _ _ => id) rfl (fun _ _ => by go_simp <;> with_reducible rfl) zH ?_
 simp only [Act.put, zA, zB, zC]
 refine zT 7 rfl (by kernel_rfl) (fun _ _ _ => id) rfl (fun wx hS => by have hc2 : wx.cell? ⟨w.heap.size + 1, 2, none⟩ = some (.int .i64 q.2.2) := hS.2.c 2 (zD rfl); go_simp <;> with_reducible rfl) zH ?_
 simp only [Act.put, zA, zB, zC]
 refine zK 8 (by kernel_rfl) rfl (fun K hK => ?_)
 go_simp
 refine (rSub_any b r2.2 p.2.2 q.2.2 _ (f2.new _ _ (by omega) _).drew).mono ?_
 rintro e w3 ⟨rfl, f3, k3⟩
 generalize e3 : subS r2.2 p.2.2 q.2.2 = r3 at f3 ⊢
 have E3 : Hid _ := e3
 clear e3
 have K3 : Kept b w w3 := Kept.trans (K2.new _ _ (by omega) _).drew k3
 have B0_3 := (B0_2.new _ _ (by omega) _).drew.kept k3 (by omega)
 have B1_3 := (B1_2.new _ _ (by omega) _).drew.kept k3 (by omega)
 have B2_3 := (B2_2.new _ _ (by omega) _).drew.kept k3 (by omega)
 have B3_3 := (B3_2.put 1 (zD rfl) (.int .i64 r2.1) [.int .i64 r1.1, .int .i64 r2.1, .int .i64 0] rfl).drew.kept k3 (by omega)
 have z3 := B3_3.lies
 clear zH
 refine hK.out _ _ ⟨B0_3, B1_3⟩ (fun zH => ?_)
 clear hK K K2 f2 B0_2 B1_2 B2_2 B3_2 k3
 refine zT 9 rfl (by kernel_rfl) (fun _ _ _ => id) rfl (fun _ _ => by go_simp <;> with_reducible rfl) zH ?_
 simp only [Act.put, zA, zB, zC]
 refine zK 10 (by kernel_rfl) rfl (fun K hK => ?_)
 have c9_B3_2 : w3.cell? ⟨w.heap.size + 1 + 1 + 1, 2, none⟩ = some (.int .i64 0) := B3_3.c 2 (zD rfl)
 have g9_B3_2 := B3_3.f 2 (zD rfl)
 go_simp
 clear zH
 refine hK.out _ _ ⟨(B0_3.new _ _ (by omega) _), (B1_3.new _ _ (by omega) _)⟩ (fun zH => ?_)
 clear hK K c9_B3_2 g9_B3_2
 refine wpAnyH_done (by kernel_rfl) ?_ _
 clear zH
 go_wp2_with fail
 rw [rounds_succ]
 have c11_B3_0 : w3.cell? ⟨w.heap.size + 1 + 1 + 1, 0, none⟩ = some (.int .i64 r1.1) := B3_3.c 0 (zD rfl)
 have c11_B3_1 : w3.cell? ⟨w.heap.size + 1 + 1 + 1, 1, none⟩ = some (.int .i64 r2.1) := B3_3.c 1 (zD rfl)
 have c11_B3_2 : w3.cell? ⟨w.heap.size + 1 + 1 + 1, 2, none⟩ = some (.int .i64 0) := B3_3.c 2 (zD rfl)
 go_wp2_with fail
 refine (done_any b r3.2 (r1.1, r2.1, r3.1) _ (f3.new _ _ (by omega) _)).mono ?_
 rintro e w4 ⟨rfl, f4, k4⟩
 generalize e4 : soundS r3.2 (r1.1, r2.1, r3.1) = r4 at f4 ⊢
 have E4 : Hid _ := e4
 clear e4
 have K4 : Kept b w w4 := Kept.trans (K3.new _ _ (by omega) _) k4
 have B0_4 := (B0_3.new _ _ (by omega) _).kept k4 (by omega)
 have B1_4 := (B1_3.new _ _ (by omega) _).kept k4 (by omega)
 have B2_4 := (B2_3.new _ _ (by omega) _).kept k4 (by omega)
 have B3_4 := (B3_3.put 2 (zD rfl) (.int .i64 r3.1) [.int .i64 r1.1, .int .i64 r2.1, .int .i64 r3.1] rfl).kept k4 (by omega)
 have z4 := B3_4.lies
 clear c11_B3_0 c11_B3_1 c11_B3_2 K3 f3 B0_3 B1_3 B2_3 B3_3 k4
 have c12_B2_0 : w4.cell? ⟨w.heap.size + 1 + 1, 0, none⟩ = some (.int .i64 0) := B2_4.c 0 (zD rfl)
 have c12_B2_1 : w4.cell? ⟨w.heap.size + 1 + 1, 1, none⟩ = some (.int .i64 0) := B2_4.c 1 (zD rfl)
 have c12_B2_2 : w4.cell? ⟨w.heap.size + 1 + 1, 2, none⟩ = some (.int .i64 0) := B2_4.c 2 (zD rfl)
 have g12_B2_0 := B2_4.f 0 (zD rfl)
 have g12_B2_1 := B2_4.f 1 (zD rfl)
 have g12_B2_2 := B2_4.f 2 (zD rfl)
 go_wp2
 clear c12_B2_0 c12_B2_1 c12_B2_2 g12_B2_0 g12_B2_1 g12_B2_2
 have d0 := Arr.c (B2_4.put 0 (zD rfl) (.int .i64 r4.1.1) [.int .i64 r4.1.1, .int .i64 0, .int .i64 0] rfl) 0 (zD rfl)
 have d1 := Arr.c ((B2_4.put 0 (zD rfl) (.int .i64 r4.1.1) [.int .i64 r4.1.1, .int .i64 0, .int .i64 0] rfl).put 1 (zD rfl) (.int .i64 r4.1.2.1) [.int .i64 r4.1.1, .int .i64 r4.1.2.1, .int .i64 0] rfl) 1 (zD rfl)
 have d2 := Arr.c (((B2_4.put 0 (zD rfl) (.int .i64 r4.1.1) [.int .i64 r4.1.1, .int .i64 0, .int .i64 0] rfl).put 1 (zD rfl) (.int .i64 r4.1.2.1) [.int .i64 r4.1.1, .int .i64 r4.1.2.1, .int .i64 0] rfl).put 2 (zD rfl) (.int .i64 r4.1.2.2) [.int .i64 r4.1.1, .int .i64 r4.1.2.1, .int .i64 r4.1.2.2] rfl) 2 (zD rfl)
 refine bodyPost_ret (v := .agg #[.int .i64 r4.1.1, .int .i64 r4.1.2.1, .int .i64 r4.1.2.2]) (by simp [results, Tryz.results27, go_sem, d0, d1, d2]) rfl ?_
 have hs : uSubS bad p q = (r4.1, r4.2) := by unfold uSubS; simp only [E1.out, E2.out, E3.out, E4.out]
 rw [hs]
 exact ⟨rfl, (((f4.new _ _ (by omega) _).new _ _ (by omega) _).new _ _ (by omega) _), (((K4.new _ _ (by omega) _).new _ _ (by omega) _).new _ _ (by omega) _)⟩
theorem uScale_any (b : Nat) (bad : Bool) (p : V3) (k : Int) (w : World) (hw : Fl b bad w) :
  Calls Tryz.prog 86 #[.pointer (some ⟨b, 0, none⟩), .agg #[.int .i64 p.1, .int .i64 p.2.1, .int .i64 p.2.2], .int .i64 k] w fun e w' => e = .returned (.agg #[.int .i64 ((uScaleS bad p k).1.1), .int .i64 ((uScaleS bad p k).1.2.1), .int .i64 ((uScaleS bad p k).1.2.2)]) ∧ Fl b (uScaleS bad p k).2 w' ∧ Kept b w w' := by
 have hl := hw.lies
 go_enter Tryz.func86, Tryz.ntmps86
 go_wp2_with fail
 refine wp_loop_rounds 4 ?_
 rw [rounds_succ]
 go_wp2_with fail
 refine (rMul_any b bad p.1 k _ (((hw.alloc _).alloc _).alloc _)).mono ?_
 rintro e w1 ⟨rfl, f1, k1⟩
 generalize e1 : mulS bad p.1 k = r1 at f1 ⊢
 have E1 : Hid _ := e1
 clear e1
 have K1 : Kept b w w1 := Kept.trans ((((Kept.refl b w).al _).al _).al _) k1
 have B0_1 : Arr w.heap.size [.int .i64 p.1, .int .i64 p.2.1, .int .i64 p.2.2] w1 := (((Arr_at _ _ [.int .i64 p.1, .int .i64 p.2.1, .int .i64 p.2.2] _ (by simp)).alloc _).alloc _).kept k1 (by omega)
 have B1_1 : Arr (w.heap.size + 1) [.int .i64 0, .int .i64 0, .int .i64 0] w1 := ((Arr_at _ _ [.int .i64 0, .int .i64 0, .int .i64 0] _ (by simp)).alloc _).kept k1 (by omega)
 have B2_1 : Arr (w.heap.size + 1 + 1) [.int .i64 0, .int .i64 0, .int .i64 0] w1 := (Arr_at _ _ [.int .i64 0, .int .i64 0, .int .i64 0] _ (by simp)).kept k1 (by omega)
 have z1 := B2_1.lies
 clear k1
 have c3_B2_0 : w1.cell? ⟨w.heap.size + 1 + 1, 0, none⟩ = some (.int .i64 0) := B2_1.c 0 (zD rfl)
 have g3_B2_0 := B2_1.f 0 (zD rfl)
 go_wp2_with fail
 clear c3_B2_0 g3_B2_0
 rw [rounds_succ]
 have c4_B0_1 : w1.cell? ⟨w.heap.size, 1, none⟩ = some (.int .i64 p.2.1) := B0_1.c 1 (zD rfl)
 go_wp2_with fail
 refine (rMul_any b r1.2 p.2.1 k _ (f1.new _ _ (by omega) _)).mono ?_
 rintro e w2 ⟨rfl, f2, k2⟩
 generalize e2 : mulS r1.2 p.2.1 k = r2 at f2 ⊢
 have E2 : Hid _ := e2
 clear e2
 have K2 : Kept b w w2 := Kept.trans (K1.new _ _ (by omega) _) k2
 have B0_2 := (B0_1.new _ _ (by omega) _).kept k2 (by omega)
 have B1_2 := (B1_1.new _ _ (by omega) _).kept k2 (by omega)
 have B2_2 := (B2_1.put 0 (zD rfl) (.int .i64 r1.1) [.int .i64 r1.1, .int .i64 0, .int .i64 0] rfl).kept k2 (by omega)
 have z2 := B2_2.lies
 clear c4_B0_1 K1 f1 B0_1 B1_1 B2_1 k2
 have c5_B2_1 : w2.cell? ⟨w.heap.size + 1 + 1, 1, none⟩ = some (.int .i64 0) := B2_2.c 1 (zD rfl)
 have g5_B2_1 := B2_2.f 1 (zD rfl)
 go_wp2_with fail
 clear c5_B2_1 g5_B2_1
 rw [rounds_succ]
 have c6_B0_2 : w2.cell? ⟨w.heap.size, 2, none⟩ = some (.int .i64 p.2.2) := B0_2.c 2 (zD rfl)
 go_wp2_with fail
 refine (rMul_any b r2.2 p.2.2 k _ (f2.new _ _ (by omega) _)).mono ?_
 rintro e w3 ⟨rfl, f3, k3⟩
 generalize e3 : mulS r2.2 p.2.2 k = r3 at f3 ⊢
 have E3 : Hid _ := e3
 clear e3
 have K3 : Kept b w w3 := Kept.trans (K2.new _ _ (by omega) _) k3
 have B0_3 := (B0_2.new _ _ (by omega) _).kept k3 (by omega)
 have B1_3 := (B1_2.new _ _ (by omega) _).kept k3 (by omega)
 have B2_3 := (B2_2.put 1 (zD rfl) (.int .i64 r2.1) [.int .i64 r1.1, .int .i64 r2.1, .int .i64 0] rfl).kept k3 (by omega)
 have z3 := B2_3.lies
 clear c6_B0_2 K2 f2 B0_2 B1_2 B2_2 k3
 have c7_B2_2 : w3.cell? ⟨w.heap.size + 1 + 1, 2, none⟩ = some (.int .i64 0) := B2_3.c 2 (zD rfl)
 have g7_B2_2 := B2_3.f 2 (zD rfl)
 go_wp2_with fail
 clear c7_B2_2 g7_B2_2
 rw [rounds_succ]
 have c8_B2_0 : w3.cell? ⟨w.heap.size + 1 + 1, 0, none⟩ = some (.int .i64 r1.1) := B2_3.c 0 (zD rfl)
 have c8_B2_1 : w3.cell? ⟨w.heap.size + 1 + 1, 1, none⟩ = some (.int .i64 r2.1) := B2_3.c 1 (zD rfl)
 have c8_B2_2 : w3.cell? ⟨w.heap.size + 1 + 1, 2, none⟩ = some (.int .i64 0) := B2_3.c 2 (zD rfl)
 go_wp2_with fail
 refine (done_any b r3.2 (r1.1, r2.1, r3.1) _ (f3.new _ _ (by omega) _)).mono ?_
 rintro e w4 ⟨rfl, f4, k4⟩
 generalize e4 : soundS r3.2 (r1.1, r2.1, r3.1) = r4 at f4 ⊢
 have E4 : Hid _ := e4
 clear e4
 have K4 : Kept b w w4 := Kept.trans (K3.new _ _ (by omega) _) k4
 have B0_4 := (B0_3.new _ _ (by omega) _).kept k4 (by omega)
 have B1_4 := (B1_3.new _ _ (by omega) _).kept k4 (by omega)
 have B2_4 := (B2_3.put 2 (zD rfl) (.int .i64 r3.1) [.int .i64 r1.1, .int .i64 r2.1, .int .i64 r3.1] rfl).kept k4 (by omega)
 have z4 := B2_4.lies
 clear c8_B2_0 c8_B2_1 c8_B2_2 K3 f3 B0_3 B1_3 B2_3 k4
 have c9_B1_0 : w4.cell? ⟨w.heap.size + 1, 0, none⟩ = some (.int .i64 0) := B1_4.c 0 (zD rfl)
 have c9_B1_1 : w4.cell? ⟨w.heap.size + 1, 1, none⟩ = some (.int .i64 0) := B1_4.c 1 (zD rfl)
 have c9_B1_2 : w4.cell? ⟨w.heap.size + 1, 2, none⟩ = some (.int .i64 0) := B1_4.c 2 (zD rfl)
 have g9_B1_0 := B1_4.f 0 (zD rfl)
 have g9_B1_1 := B1_4.f 1 (zD rfl)
 have g9_B1_2 := B1_4.f 2 (zD rfl)
 go_wp2
 clear c9_B1_0 c9_B1_1 c9_B1_2 g9_B1_0 g9_B1_1 g9_B1_2
 have d0 := Arr.c (B1_4.put 0 (zD rfl) (.int .i64 r4.1.1) [.int .i64 r4.1.1, .int .i64 0, .int .i64 0] rfl) 0 (zD rfl)
 have d1 := Arr.c ((B1_4.put 0 (zD rfl) (.int .i64 r4.1.1) [.int .i64 r4.1.1, .int .i64 0, .int .i64 0] rfl).put 1 (zD rfl) (.int .i64 r4.1.2.1) [.int .i64 r4.1.1, .int .i64 r4.1.2.1, .int .i64 0] rfl) 1 (zD rfl)
 have d2 := Arr.c (((B1_4.put 0 (zD rfl) (.int .i64 r4.1.1) [.int .i64 r4.1.1, .int .i64 0, .int .i64 0] rfl).put 1 (zD rfl) (.int .i64 r4.1.2.1) [.int .i64 r4.1.1, .int .i64 r4.1.2.1, .int .i64 0] rfl).put 2 (zD rfl) (.int .i64 r4.1.2.2) [.int .i64 r4.1.1, .int .i64 r4.1.2.1, .int .i64 r4.1.2.2] rfl) 2 (zD rfl)
 refine bodyPost_ret (v := .agg #[.int .i64 r4.1.1, .int .i64 r4.1.2.1, .int .i64 r4.1.2.2]) (by simp [results, Tryz.results86, go_sem, d0, d1, d2]) rfl ?_
 have hs : uScaleS bad p k = (r4.1, r4.2) := by unfold uScaleS; simp only [E1.out, E2.out, E3.out, E4.out]
 rw [hs]
 exact ⟨rfl, (((f4.new _ _ (by omega) _).new _ _ (by omega) _).new _ _ (by omega) _), (((K4.new _ _ (by omega) _).new _ _ (by omega) _).new _ _ (by omega) _)⟩
theorem uDot_any (b : Nat) (bad : Bool) (p : V3) (q : V3) (w : World) (hw : Fl b bad w) :
  Calls Tryz.prog 88 #[.pointer (some ⟨b, 0, none⟩), .agg #[.int .i64 p.1, .int .i64 p.2.1, .int .i64 p.2.2], .agg #[.int .i64 q.1, .int .i64 q.2.1, .int .i64 q.2.2]] w fun e w' => e = .returned (.int .i64 ((uDotS bad p q).1)) ∧ Fl b (uDotS bad p q).2 w' ∧ Kept b w w' := by
 have hl := hw.lies
 go_enter Tryz.func88, Tryz.ntmps88
 go_wp2_with fail
 refine (rMul_any b bad p.1 q.1 _ ((hw.alloc _).alloc _)).mono ?_
 rintro e w1 ⟨rfl, f1, k1⟩
 generalize e1 : mulS bad p.1 q.1 = r1 at f1 ⊢
 have E1 : Hid _ := e1
 clear e1
 have K1 : Kept b w w1 := Kept.trans (((Kept.refl b w).al _).al _) k1
 have B0_1 : Arr w.heap.size [.int .i64 p.1, .int .i64 p.2.1, .int .i64 p.2.2] w1 := ((Arr_at _ _ [.int .i64 p.1, .int .i64 p.2.1, .int .i64 p.2.2] _ (by simp)).alloc _).kept k1 (by omega)
 have B1_1 : Arr (w.heap.size + 1) [.int .i64 q.1, .int .i64 q.2.1, .int .i64 q.2.2] w1 := (Arr_at _ _ [.int .i64 q.1, .int .i64 q.2.1, .int .i64 q.2.2] _ (by simp)).kept k1 (by omega)
 have z1 := B1_1.lies
 clear k1
 have c2_B0_1 : w1.cell? ⟨w.heap.size, 1, none⟩ = some (.int .i64 p.2.1) := B0_1.c 1 (zD rfl)
 have c2_B1_1 : w1.cell? ⟨w.heap.size + 1, 1, none⟩ = some (.int .i64 q.2.1) := B1_1.c 1 (zD rfl)
 go_wp2_with fail
 refine (rMul_any b r1.2 p.2.1 q.2.1 _ f1).mono ?_
 rintro e w2 ⟨rfl, f2, k2⟩
 generalize e2 : mulS r1.2 p.2.1 q.2.1 = r2 at f2 ⊢
 have E2 : Hid _ := e2
 clear e2
 have K2 := Kept.trans K1 k2
 have B0_2 := B0_1.kept k2 (by omega)
 have B1_2 := B1_1.kept k2 (by omega)
 have z2 := B1_2.lies
 clear c2_B0_1 c2_B1_1 K1 f1 B0_1 B1_1 k2
 have c3_B0_2 : w2.cell? ⟨w.heap.size, 2, none⟩ = some (.int .i64 p.2.2) := B0_2.c 2 (zD rfl)
 have c3_B1_2 : w2.cell? ⟨w.heap.size + 1, 2, none⟩ = some (.int .i64 q.2.2) := B1_2.c 2 (zD rfl)
 go_wp2_with fail
 refine (rMul_any b r2.2 p.2.2 q.2.2 _ f2).mono ?_
 rintro e w3 ⟨rfl, f3, k3⟩
 generalize e3 : mulS r2.2 p.2.2 q.2.2 = r3 at f3 ⊢
 have E3 : Hid _ := e3
 clear e3
 have K3 := Kept.trans K2 k3
 have B0_3 := B0_2.kept k3 (by omega)
 have B1_3 := B1_2.kept k3 (by omega)
 have z3 := B1_3.lies
 clear c3_B0_2 c3_B1_2 K2 f2 B0_2 B1_2 k3
 go_wp2_with fail
 refine (rAdd_any b r3.2 r1.1 r2.1 _ f3).mono ?_
 rintro e w4 ⟨rfl, f4, k4⟩
 generalize e4 : addS r3.2 r1.1 r2.1 = r4 at f4 ⊢
 have E4 : Hid _ := e4
 clear e4
 have K4 := Kept.trans K3 k4
 have B0_4 := B0_3.kept k4 (by omega)
 have B1_4 := B1_3.kept k4 (by omega)
 have z4 := B1_4.lies
 clear K3 f3 B0_3 B1_3 k4
 go_wp2_with fail
 refine (rAdd_any b r4.2 r4.1 r3.1 _ f4).mono ?_
 rintro e w5 ⟨rfl, f5, k5⟩
 generalize e5 : addS r4.2 r4.1 r3.1 = r5 at f5 ⊢
 have E5 : Hid _ := e5
 clear e5
 have K5 := Kept.trans K4 k5
 have B0_5 := B0_4.kept k5 (by omega)
 have B1_5 := B1_4.kept k5 (by omega)
 have z5 := B1_5.lies
 clear K4 f4 B0_4 B1_4 k5
 go_wp2
 go_ret
 have hs : uDotS bad p q = (r5.1, r5.2) := by unfold uDotS; simp only [E1.out, E2.out, E3.out, E4.out, E5.out]
 rw [hs]
 exact ⟨rfl, f5, K5⟩
theorem uNorm_any (b : Nat) (bad : Bool) (p : V3) (w : World) (hw : Fl b bad w) :
  Calls Tryz.prog 104 #[.pointer (some ⟨b, 0, none⟩), .agg #[.int .i64 p.1, .int .i64 p.2.1, .int .i64 p.2.2]] w fun e w' => e = .returned (.int .i64 ((uNormS bad p).1)) ∧ Fl b (uNormS bad p).2 w' ∧ Kept b w w' := by
 have hl := hw.lies
 go_enter Tryz.func104, Tryz.ntmps104
 go_wp2_with fail
 refine (rNorm_any b bad p.1 p.2.1 p.2.2 _ (hw.alloc _)).mono ?_
 rintro e w1 ⟨rfl, f1, k1⟩
 generalize e1 : normS bad p.1 p.2.1 p.2.2 = r1 at f1 ⊢
 have E1 : Hid _ := e1
 clear e1
 have K1 : Kept b w w1 := Kept.trans ((Kept.refl b w).al _) k1
 have B0_1 : Arr w.heap.size [.int .i64 p.1, .int .i64 p.2.1, .int .i64 p.2.2] w1 := (Arr_at _ _ [.int .i64 p.1, .int .i64 p.2.1, .int .i64 p.2.2] _ (by simp)).kept k1 (by omega)
 have z1 := B0_1.lies
 clear k1
 go_wp2
 go_ret
 have hs : uNormS bad p = (r1.1, r1.2) := by unfold uNormS; simp only [E1.out]
 rw [hs]
 exact ⟨rfl, f1, K1⟩
end Go.Proofs.YtpjobkbefgehjaaGreat
namespace Go.Proofs.YtpjobkbefgehjaaGreat
open Go.RowKit
theorem uCross_any (b : Nat) (bad : Bool) (p : V3) (q : V3) (w : World) (hw : Fl b bad w) :
  Calls Tryz.prog 87 #[.pointer (some ⟨b, 0, none⟩), .agg #[.int .i64 p.1, .int .i64 p.2.1, .int .i64 p.2.2], .agg #[.int .i64 q.1, .int .i64 q.2.1, .int .i64 q.2.2]] w fun e w' => e = .returned (.agg #[.int .i64 ((uCrossS bad p q).1.1), .int .i64 ((uCrossS bad p q).1.2.1), .int .i64 ((uCrossS bad p q).1.2.2)]) ∧ Fl b (uCrossS bad p q).2 w' ∧ Kept b w w' := by
 have hl := hw.lies
 go_enter Tryz.func87, Tryz.ntmps87
 go_wp2_with fail
 refine wp_loop_rounds 4 ?_
 rw [rounds_succ]
 go_wp2_with fail
 refine wp_region_held_drew (S := fun w' => Arr w.heap.size [.int .i64 p.1, .int .i64 p.2.1, .int .i64 p.2.2] w' ∧ Arr (w.heap.size + 1) [.int .i64 q.1, .int .i64 q.2.1, .int .i64 q.2.2] w') (by kernel_rfl) ⟨((((Arr_at _ _ [.int .i64 p.1, .int .i64 p.2.1, .int .i64 p.2.2] _ (by simp)).alloc _).alloc _).alloc _).drew, (((Arr_at _ _ [.int .i64 q.1, .int .i64 q.2.1, .int .i64 q.2.2] _ (by simp)).alloc _).alloc _).drew⟩ (fun zH => ?_)
 refine zT 0 rfl (by kernel_rfl) (fun _ _ _ => id) rfl (fun _ _ => by go_simp <;> with_reducible rfl) zH ?_
 simp only [Act.put, zA, zB, zC]
 refine zT 1 rfl (by kernel_rfl) (fun _ _ _ => id) rfl (fun _ _ => by go_simp <;> with_reducible rfl) zH ?_
 simp only [Act.put, zA, zB, zC]
 refine zT 2 rfl (by kernel_rfl) (fun _ _ _ => id) rfl (fun _ _ => by go_simp <;> with_reducible rfl) zH ?_
 simp only [Act.put, zA, zB, zC]
 refine zT 3 rfl (by kernel_rfl) (fun _ _ _ => id) rfl (fun wx hS => by have hc1 : wx.cell? ⟨w.heap.size, 1, none⟩ = some (.int .i64 p.2.1) := hS.1.c 1 (zD rfl); go_simp <;> with_reducible rfl) zH ?_
 simp only [Act.put, zA, zB, zC]
 refine zT 4 rfl (by kernel_rfl) (fun _ _ _ => id) rfl (fun _ _ => by go_simp <;> with_reducible rfl) zH ?_
 simp only [Act.put, zA, zB, zC]
 refine zT 5 rfl (by kernel_rfl) (fun _ _ _ => id) rfl (fun _ _ => by go_simp <;> with_reducible rfl) zH ?_
 simp only [Act.put, zA, zB, zC]
 refine zT 6 rfl (by kernel_rfl) (fun _ _ _ => id) rfl (fun wx hS => by have hc2 : wx.cell? ⟨w.heap.size + 1, 2, none⟩ = some (.int .i64 q.2.2) := hS.2.c 2 (zD rfl); go_simp <;> with_reducible rfl) zH ?_
 simp only [Act.put, zA, zB, zC]
 refine zK 7 (by kernel_rfl) rfl (fun K hK => ?_)
 go_simp
 refine (rMul_any b bad p.2.1 q.2.2 _ ((((hw.alloc _).alloc _).alloc _).alloc _).drew).mono ?_
 rintro e w1 ⟨rfl, f1, k1⟩
 generalize e1 : mulS bad p.2.1 q.2.2 = r1 at f1 ⊢
 have E1 : Hid _ := e1
 clear e1
 have K1 : Kept b w w1 := Kept.trans (((((Kept.refl b w).al _).al _).al _).al _).drew k1
 have B0_1 : Arr w.heap.size [.int .i64 p.1, .int .i64 p.2.1, .int .i64 p.2.2] w1 := ((((Arr_at _ _ [.int .i64 p.1, .int .i64 p.2.1, .int .i64 p.2.2] _ (by simp)).alloc _).alloc _).alloc _).drew.kept k1 (by omega)
 have B1_1 : Arr (w.heap.size + 1) [.int .i64 q.1, .int .i64 q.2.1, .int .i64 q.2.2] w1 := (((Arr_at _ _ [.int .i64 q.1, .int .i64 q.2.1, .int .i64 q.2.2] _ (by simp)).alloc _).alloc _).drew.kept k1 (by omega)
 have B2_1 : Arr (w.heap.size + 1 + 1) [.int .i64 0, .int .i64 0, .int .i64 0] w1 := ((Arr_at _ _ [.int .i64 0, .int .i64 0, .int .i64 0] _ (by simp)).alloc _).drew.kept k1 (by omega)
 have B3_1 : Arr (w.heap.size + 1 + 1 + 1) [.int .i64 0, .int .i64 0, .int .i64 0] w1 := (Arr_at _ _ [.int .i64 0, .int .i64 0, .int .i64 0] _ (by simp)).drew.kept k1 (by omega)
 have z1 := B3_1.lies
 clear zH
 refine hK.out _ _ ⟨B0_1, B1_1⟩ (fun zH => ?_)
 clear hK K k1
 refine zT 8 rfl (by kernel_rfl) (fun _ _ _ => id) rfl (fun _ _ => by go_simp <;> with_reducible rfl) zH ?_
 simp only [Act.put, zA, zB, zC]
 refine wpAnyH_done (by kernel_rfl) ?_ _
 clear zH
 go_wp2_with fail
 refine wp_region_held_drew (S := fun w' => Arr w.heap.size [.int .i64 p.1, .int .i64 p.2.1, .int .i64 p.2.2] w' ∧ Arr (w.heap.size + 1) [.int .i64 q.1, .int .i64 q.2.1, .int .i64 q.2.2] w') (by kernel_rfl) ⟨B0_1.drew, B1_1.drew⟩ (fun zH => ?_)
 refine zT 0 rfl (by kernel_rfl) (fun _ _ _ => id) rfl (fun _ _ => by go_simp <;> with_reducible rfl) zH ?_
 simp only [Act.put, zA, zB, zC]
 refine zT 1 rfl (by kernel_rfl) (fun _ _ _ => id) rfl (fun _ _ => by go_simp <;> with_reducible rfl) zH ?_
 simp only [Act.put, zA, zB, zC]
 refine zT 2 rfl (by kernel_rfl) (fun _ _ _ => id) rfl (fun _ _ => by go_simp <;> with_reducible rfl) zH ?_
 simp only [Act.put, zA, zB, zC]
 refine zT 3 rfl (by kernel_rfl) (fun _ _ _ => id) rfl (fun wx hS => by have hc2 : wx.cell? ⟨w.heap.size, 2, none⟩ = some (.int .i64 p.2.2) := hS.1.c 2 (zD rfl); go_simp <;> with_reducible rfl) zH ?_
 simp only [Act.put, zA, zB, zC]
 refine zT 4 rfl (by kernel_rfl) (fun _ _ _ => id) rfl (fun _ _ => by go_simp <;> with_reducible rfl) zH ?_
 simp only [Act.put, zA, zB, zC]
 refine zT 5 rfl (by kernel_rfl) (fun _ _ _ => id) rfl (fun _ _ => by go_simp <;> with_reducible rfl) zH ?_
 simp only [Act.put, zA, zB, zC]
 refine zT 6 rfl (by kernel_rfl) (fun _ _ _ => id) rfl (fun wx hS => by have hc1 : wx.cell? ⟨w.heap.size + 1, 1, none⟩ = some (.int .i64 q.2.1) := hS.2.c 1 (zD rfl); go_simp <;> with_reducible rfl) zH ?_
 simp only [Act.put, zA, zB, zC]
 refine zK 7 (by kernel_rfl) rfl (fun K hK => ?_)
 go_simp
 refine (rMul_any b r1.2 p.2.2 q.2.1 _ f1.drew).mono ?_
 rintro e w2 ⟨rfl, f2, k2⟩
 generalize e2 : mulS r1.2 p.2.2 q.2.1 = r2 at f2 ⊢
 have E2 : Hid _ := e2
 clear e2
 have K2 : Kept b w w2 := Kept.trans K1.drew k2
 have B0_2 := B0_1.drew.kept k2 (by omega)
 have B1_2 := B1_1.drew.kept k2 (by omega)
 have B2_2 := B2_1.drew.kept k2 (by omega)
 have B3_2 := B3_1.drew.kept k2 (by omega)
 have z2 := B3_2.lies
 clear zH
 refine hK.out _ _ ⟨B0_2, B1_2⟩ (fun zH => ?_)
 clear hK K K1 f1 B0_1 B1_1 B2_1 B3_1 k2
 refine zT 8 rfl (by kernel_rfl) (fun _ _ _ => id) rfl (fun _ _ => by go_simp <;> with_reducible rfl) zH ?_
 simp only [Act.put, zA, zB, zC]
 refine wpAnyH_done (by kernel_rfl) ?_ _
 clear zH
 go_wp2_with fail
 refine (rSub_any b r2.2 r1.1 r2.1 _ f2).mono ?_
 rintro e w3 ⟨rfl, f3, k3⟩
 generalize e3 : subS r2.2 r1.1 r2.1 = r3 at f3 ⊢
 have E3 : Hid _ := e3
 clear e3
 have K3 := Kept.trans K2 k3
 have B0_3 := B0_2.kept k3 (by omega)
 have B1_3 := B1_2.kept k3 (by omega)
 have B2_3 := B2_2.kept k3 (by omega)
 have B3_3 := B3_2.kept k3 (by omega)
 have z3 := B3_3.lies
 clear K2 f2 B0_2 B1_2 B2_2 B3_2 k3
 have c5_B3_0 : w3.cell? ⟨w.heap.size + 1 + 1 + 1, 0, none⟩ = some (.int .i64 0) := B3_3.c 0 (zD rfl)
 have g5_B3_0 := B3_3.f 0 (zD rfl)
 go_wp2_with fail
 clear c5_B3_0 g5_B3_0
 rw [rounds_succ]
 go_wp2_with fail
 refine wp_region_held_drew (S := fun w' => Arr w.heap.size [.int .i64 p.1, .int .i64 p.2.1, .int .i64 p.2.2] w' ∧ Arr (w.heap.size + 1) [.int .i64 q.1, .int .i64 q.2.1, .int .i64 q.2.2] w') (by kernel_rfl) ⟨(B0_3.new _ _ (by omega) _).drew, (B1_3.new _ _ (by omega) _).drew⟩ (fun zH => ?_)
 refine zT 0 rfl (by kernel_rfl) (fun _ _ _ => id) rfl (fun _ _ => by go_simp <;> with_reducible rfl) zH ?_
 simp only [Act.put, zA, zB, zC]
 refine zT 1 rfl (by kernel_rfl) (fun _ _ _ => id) rfl (fun _ _ => by go_simp <;> with_reducible rfl) zH ?_
 simp only [Act.put, zA, zB, zC]
 refine zT 2 rfl (by kernel_rfl) (fun _ _ _ => id) rfl (fun _ _ => by go_simp <;> with_reducible rfl) zH ?_
 simp only [Act.put, zA, zB, zC]
 refine zT 3 rfl (by kernel_rfl) (fun _ _ _ => id) rfl (fun wx hS => by have hc2 : wx.cell? ⟨w.heap.size, 2, none⟩ = some (.int .i64 p.2.2) := hS.1.c 2 (zD rfl); go_simp <;> with_reducible rfl) zH ?_
 simp only [Act.put, zA, zB, zC]
 refine zT 4 rfl (by kernel_rfl) (fun _ _ _ => id) rfl (fun _ _ => by go_simp <;> with_reducible rfl) zH ?_
 simp only [Act.put, zA, zB, zC]
 refine zT 5 rfl (by kernel_rfl) (fun _ _ _ => id) rfl (fun _ _ => by go_simp <;> with_reducible rfl) zH ?_
 simp only [Act.put, zA, zB, zC]
 refine zT 6 rfl (by kernel_rfl) (fun _ _ _ => id) rfl (fun wx hS => by have hc0 : wx.cell? ⟨w.heap.size + 1, 0, none⟩ = some (.int .i64 q.1) := hS.2.c 0 (zD rfl); go_simp <;> with_reducible rfl) zH ?_
 simp only [Act.put, zA, zB, zC]
 refine zK 7 (by kernel_rfl) rfl (fun K hK => ?_)
 go_simp
 refine (rMul_any b r3.2 p.2.2 q.1 _ (f3.new _ _ (by omega) _).drew).mono ?_
 rintro e w4 ⟨rfl, f4, k4⟩
 generalize e4 : mulS r3.2 p.2.2 q.1 = r4 at f4 ⊢
 have E4 : Hid _ := e4
 clear e4
 have K4 : Kept b w w4 := Kept.trans (K3.new _ _ (by omega) _).drew k4
 have B0_4 := (B0_3.new _ _ (by omega) _).drew.kept k4 (by omega)
 have B1_4 := (B1_3.new _ _ (by omega) _).drew.kept k4 (by omega)
 have B2_4 := (B2_3.new _ _ (by omega) _).drew.kept k4 (by omega)
 have B3_4 := (B3_3.put 0 (zD rfl) (.int .i64 r3.1) [.int .i64 r3.1, .int .i64 0, .int .i64 0] rfl).drew.kept k4 (by omega)
 have z4 := B3_4.lies
 clear zH
 refine hK.out _ _ ⟨B0_4, B1_4⟩ (fun zH => ?_)
 clear hK K K3 f3 B0_3 B1_3 B2_3 B3_3 k4
 refine zT 8 rfl (by kernel_rfl) (fun _ _ _ => id) rfl (fun _ _ => by go_simp <;> with_reducible rfl) zH ?_
 simp only [Act.put, zA, zB, zC]
 refine wpAnyH_done (by kernel_rfl) ?_ _
 clear zH
 go_wp2_with fail
 refine wp_region_held_drew (S := fun w' => Arr w.heap.size [.int .i64 p.1, .int .i64 p.2.1, .int .i64 p.2.2] w' ∧ Arr (w.heap.size + 1) [.int .i64 q.1, .int .i64 q.2.1, .int .i64 q.2.2] w') (by kernel_rfl) ⟨B0_4.drew, B1_4.drew⟩ (fun zH => ?_)
 refine zT 0 rfl (by kernel_rfl) (fun _ _ _ => id) rfl (fun _ _ => by go_simp <;> with_reducible rfl) zH ?_
 simp only [Act.put, zA, zB, zC]
 refine zT 1 rfl (by kernel_rfl) (fun _ _ _ => id) rfl (fun _ _ => by go_simp <;> with_reducible rfl) zH ?_
 simp only [Act.put, zA, zB, zC]
 refine zT 2 rfl (by kernel_rfl) (fun _ _ _ => id) rfl (fun _ _ => by go_simp <;> with_reducible rfl) zH ?_
 simp only [Act.put, zA, zB, zC]
 refine zT 3 rfl (by kernel_rfl) (fun _ _ _ => id) rfl (fun wx hS => by have hc0 : wx.cell? ⟨w.heap.size, 0, none⟩ = some (.int .i64 p.1) := hS.1.c 0 (zD rfl); go_simp <;> with_reducible rfl) zH ?_
 simp only [Act.put, zA, zB, zC]
 refine zT 4 rfl (by kernel_rfl) (fun _ _ _ => id) rfl (fun _ _ => by go_simp <;> with_reducible rfl) zH ?_
 simp only [Act.put, zA, zB, zC]
 refine zT 5 rfl (by kernel_rfl) (fun _ _ _ => id) rfl (fun _ _ => by go_simp <;> with_reducible rfl) zH ?_
 simp only [Act.put, zA, zB, zC]
 refine zT 6 rfl (by kernel_rfl) (fun _ _ _ => id) rfl (fun wx hS => by have hc2 : wx.cell? ⟨w.heap.size + 1, 2, none⟩ = some (.int .i64 q.2.2) := hS.2.c 2 (zD rfl); go_simp <;> with_reducible rfl) zH ?_
 simp only [Act.put, zA, zB, zC]
 refine zK 7 (by kernel_rfl) rfl (fun K hK => ?_)
 go_simp
 refine (rMul_any b r4.2 p.1 q.2.2 _ f4.drew).mono ?_
 rintro e w5 ⟨rfl, f5, k5⟩
 generalize e5 : mulS r4.2 p.1 q.2.2 = r5 at f5 ⊢
 have E5 : Hid _ := e5
 clear e5
 have K5 : Kept b w w5 := Kept.trans K4.drew k5
 have B0_5 := B0_4.drew.kept k5 (by omega)
 have B1_5 := B1_4.drew.kept k5 (by omega)
 have B2_5 := B2_4.drew.kept k5 (by omega)
 have B3_5 := B3_4.drew.kept k5 (by omega)
 have z5 := B3_5.lies
 clear zH
 refine hK.out _ _ ⟨B0_5, B1_5⟩ (fun zH => ?_)
 clear hK K K4 f4 B0_4 B1_4 B2_4 B3_4 k5
 refine zT 8 rfl (by kernel_rfl) (fun _ _ _ => id) rfl (fun _ _ => by go_simp <;> with_reducible rfl) zH ?_
 simp only [Act.put, zA, zB, zC]
 refine wpAnyH_done (by kernel_rfl) ?_ _
 clear zH
 go_wp2_with fail
 refine (rSub_any b r5.2 r4.1 r5.1 _ f5).mono ?_
 rintro e w6 ⟨rfl, f6, k6⟩
 generalize e6 : subS r5.2 r4.1 r5.1 = r6 at f6 ⊢
 have E6 : Hid _ := e6
 clear e6
 have K6 := Kept.trans K5 k6
 have B0_6 := B0_5.kept k6 (by omega)
 have B1_6 := B1_5.kept k6 (by omega)
 have B2_6 := B2_5.kept k6 (by omega)
 have B3_6 := B3_5.kept k6 (by omega)
 have z6 := B3_6.lies
 clear K5 f5 B0_5 B1_5 B2_5 B3_5 k6
 have c9_B3_1 : w6.cell? ⟨w.heap.size + 1 + 1 + 1, 1, none⟩ = some (.int .i64 0) := B3_6.c 1 (zD rfl)
 have g9_B3_1 := B3_6.f 1 (zD rfl)
 go_wp2_with fail
 clear c9_B3_1 g9_B3_1
 rw [rounds_succ]
 go_wp2_with fail
 refine wp_region_held_drew (S := fun w' => Arr w.heap.size [.int .i64 p.1, .int .i64 p.2.1, .int .i64 p.2.2] w' ∧ Arr (w.heap.size + 1) [.int .i64 q.1, .int .i64 q.2.1, .int .i64 q.2.2] w') (by kernel_rfl) ⟨(B0_6.new _ _ (by omega) _).drew, (B1_6.new _ _ (by omega) _).drew⟩ (fun zH => ?_)
 refine zT 0 rfl (by kernel_rfl) (fun _ _ _ => id) rfl (fun _ _ => by go_simp <;> with_reducible rfl) zH ?_
 simp only [Act.put, zA, zB, zC]
 refine zT 1 rfl (by kernel_rfl) (fun _ _ _ => id) rfl (fun _ _ => by go_simp <;> with_reducible rfl) zH ?_
 simp only [Act.put, zA, zB, zC]
 refine zT 2 rfl (by kernel_rfl) (fun _ _ _ => id) rfl (fun _ _ => by go_simp <;> with_reducible rfl) zH ?_
 simp only [Act.put, zA, zB, zC]
 refine zT 3 rfl (by kernel_rfl) (fun _ _ _ => id) rfl (fun wx hS => by have hc0 : wx.cell? ⟨w.heap.size, 0, none⟩ = some (.int .i64 p.1) := hS.1.c 0 (zD rfl); go_simp <;> with_reducible rfl) zH ?_
 simp only [Act.put, zA, zB, zC]
 refine zT 4 rfl (by kernel_rfl) (fun _ _ _ => id) rfl (fun _ _ => by go_simp <;> with_reducible rfl) zH ?_
 simp only [Act.put, zA, zB, zC]
 refine zT 5 rfl (by kernel_rfl) (fun _ _ _ => id) rfl (fun _ _ => by go_simp <;> with_reducible rfl) zH ?_
 simp only [Act.put, zA, zB, zC]
 refine zT 6 rfl (by kernel_rfl) (fun _ _ _ => id) rfl (fun wx hS => by have hc1 : wx.cell? ⟨w.heap.size + 1, 1, none⟩ = some (.int .i64 q.2.1) := hS.2.c 1 (zD rfl); go_simp <;> with_reducible rfl) zH ?_
 simp only [Act.put, zA, zB, zC]
 refine zK 7 (by kernel_rfl) rfl (fun K hK => ?_)
 go_simp
 refine (rMul_any b r6.2 p.1 q.2.1 _ (f6.new _ _ (by omega) _).drew).mono ?_
 rintro e w7 ⟨rfl, f7, k7⟩
 generalize e7 : mulS r6.2 p.1 q.2.1 = r7 at f7 ⊢
 have E7 : Hid _ := e7
 clear e7
 have K7 : Kept b w w7 := Kept.trans (K6.new _ _ (by omega) _).drew k7
 have B0_7 := (B0_6.new _ _ (by omega) _).drew.kept k7 (by omega)
 have B1_7 := (B1_6.new _ _ (by omega) _).drew.kept k7 (by omega)
 have B2_7 := (B2_6.new _ _ (by omega) _).drew.kept k7 (by omega)
 have B3_7 := (B3_6.put 1 (zD rfl) (.int .i64 r6.1) [.int .i64 r3.1, .int .i64 r6.1, .int .i64 0] rfl).drew.kept k7 (by omega)
 have z7 := B3_7.lies
 clear zH
 refine hK.out _ _ ⟨B0_7, B1_7⟩ (fun zH => ?_)
 clear hK K K6 f6 B0_6 B1_6 B2_6 B3_6 k7
 refine zT 8 rfl (by kernel_rfl) (fun _ _ _ => id) rfl (fun _ _ => by go_simp <;> with_reducible rfl) zH ?_
 simp only [Act.put, zA, zB, zC]
 refine wpAnyH_done (by kernel_rfl) ?_ _
 clear zH
 go_wp2_with fail
 refine wp_region_held_drew (S := fun w' => Arr w.heap.size [.int .i64 p.1, .int .i64 p.2.1, .int .i64 p.2.2] w' ∧ Arr (w.heap.size + 1) [.int .i64 q.1, .int .i64 q.2.1, .int .i64 q.2.2] w') (by kernel_rfl) ⟨B0_7.drew, B1_7.drew⟩ (fun zH => ?_)
 refine zT 0 rfl (by kernel_rfl) (fun _ _ _ => id) rfl (fun _ _ => by go_simp <;> with_reducible rfl) zH ?_
 simp only [Act.put, zA, zB, zC]
 refine zT 1 rfl (by kernel_rfl) (fun _ _ _ => id) rfl (fun _ _ => by go_simp <;> with_reducible rfl) zH ?_
 simp only [Act.put, zA, zB, zC]
 refine zT 2 rfl (by kernel_rfl) (fun _ _ _ => id) rfl (fun _ _ => by go_simp <;> with_reducible rfl) zH ?_
 simp only [Act.put, zA, zB, zC]
 refine zT 3 rfl (by kernel_rfl) (fun _ _ _ => id) rfl (fun wx hS => by have hc1 : wx.cell? ⟨w.heap.size, 1, none⟩ = some (.int .i64 p.2.1) := hS.1.c 1 (zD rfl); go_simp <;> with_reducible rfl) zH ?_
 simp only [Act.put, zA, zB, zC]
 refine zT 4 rfl (by kernel_rfl) (fun _ _ _ => id) rfl (fun _ _ => by go_simp <;> with_reducible rfl) zH ?_
 simp only [Act.put, zA, zB, zC]
 refine zT 5 rfl (by kernel_rfl) (fun _ _ _ => id) rfl (fun _ _ => by go_simp <;> with_reducible rfl) zH ?_
 simp only [Act.put, zA, zB, zC]
 refine zT 6 rfl (by kernel_rfl) (fun _ _ _ => id) rfl (fun wx hS => by have hc0 : wx.cell? ⟨w.heap.size + 1, 0, none⟩ = some (.int .i64 q.1) := hS.2.c 0 (zD rfl); go_simp <;> with_reducible rfl) zH ?_
 simp only [Act.put, zA, zB, zC]
 refine zK 7 (by kernel_rfl) rfl (fun K hK => ?_)
 go_simp
 refine (rMul_any b r7.2 p.2.1 q.1 _ f7.drew).mono ?_
 rintro e w8 ⟨rfl, f8, k8⟩
 generalize e8 : mulS r7.2 p.2.1 q.1 = r8 at f8 ⊢
 have E8 : Hid _ := e8
 clear e8
 have K8 : Kept b w w8 := Kept.trans K7.drew k8
 have B0_8 := B0_7.drew.kept k8 (by omega)
 have B1_8 := B1_7.drew.kept k8 (by omega)
 have B2_8 := B2_7.drew.kept k8 (by omega)
 have B3_8 := B3_7.drew.kept k8 (by omega)
 have z8 := B3_8.lies
 clear zH
 refine hK.out _ _ ⟨B0_8, B1_8⟩ (fun zH => ?_)
 clear hK K K7 f7 B0_7 B1_7 B2_7 B3_7 k8
 refine zT 8 rfl (by kernel_rfl) (fun _ _ _ => id) rfl (fun _ _ => by go_simp <;> with_reducible rfl) zH ?_
 simp only [Act.put, zA, zB, zC]
 refine wpAnyH_done (by kernel_rfl) ?_ _
 clear zH
 go_wp2_with fail
 refine (rSub_any b r8.2 r7.1 r8.1 _ f8).mono ?_
 rintro e w9 ⟨rfl, f9, k9⟩
 generalize e9 : subS r8.2 r7.1 r8.1 = r9 at f9 ⊢
 have E9 : Hid _ := e9
 clear e9
 have K9 := Kept.trans K8 k9
 have B0_9 := B0_8.kept k9 (by omega)
 have B1_9 := B1_8.kept k9 (by omega)
 have B2_9 := B2_8.kept k9 (by omega)
 have B3_9 := B3_8.kept k9 (by omega)
 have z9 := B3_9.lies
 clear K8 f8 B0_8 B1_8 B2_8 B3_8 k9
 have c13_B3_2 : w9.cell? ⟨w.heap.size + 1 + 1 + 1, 2, none⟩ = some (.int .i64 0) := B3_9.c 2 (zD rfl)
 have g13_B3_2 := B3_9.f 2 (zD rfl)
 go_wp2_with fail
 clear c13_B3_2 g13_B3_2
 rw [rounds_succ]
 have c14_B3_0 : w9.cell? ⟨w.heap.size + 1 + 1 + 1, 0, none⟩ = some (.int .i64 r3.1) := B3_9.c 0 (zD rfl)
 have c14_B3_1 : w9.cell? ⟨w.heap.size + 1 + 1 + 1, 1, none⟩ = some (.int .i64 r6.1) := B3_9.c 1 (zD rfl)
 have c14_B3_2 : w9.cell? ⟨w.heap.size + 1 + 1 + 1, 2, none⟩ = some (.int .i64 0) := B3_9.c 2 (zD rfl)
 go_wp2_with fail
 refine (done_any b r9.2 (r3.1, r6.1, r9.1) _ (f9.new _ _ (by omega) _)).mono ?_
 rintro e w10 ⟨rfl, f10, k10⟩
 generalize e10 : soundS r9.2 (r3.1, r6.1, r9.1) = r10 at f10 ⊢
 have E10 : Hid _ := e10
 clear e10
 have K10 : Kept b w w10 := Kept.trans (K9.new _ _ (by omega) _) k10
 have B0_10 := (B0_9.new _ _ (by omega) _).kept k10 (by omega)
 have B1_10 := (B1_9.new _ _ (by omega) _).kept k10 (by omega)
 have B2_10 := (B2_9.new _ _ (by omega) _).kept k10 (by omega)
 have B3_10 := (B3_9.put 2 (zD rfl) (.int .i64 r9.1) [.int .i64 r3.1, .int .i64 r6.1, .int .i64 r9.1] rfl).kept k10 (by omega)
 have z10 := B3_10.lies
 clear c14_B3_0 c14_B3_1 c14_B3_2 K9 f9 B0_9 B1_9 B2_9 B3_9 k10
 have c15_B2_0 : w10.cell? ⟨w.heap.size + 1 + 1, 0, none⟩ = some (.int .i64 0) := B2_10.c 0 (zD rfl)
 have c15_B2_1 : w10.cell? ⟨w.heap.size + 1 + 1, 1, none⟩ = some (.int .i64 0) := B2_10.c 1 (zD rfl)
 have c15_B2_2 : w10.cell? ⟨w.heap.size + 1 + 1, 2, none⟩ = some (.int .i64 0) := B2_10.c 2 (zD rfl)
 have g15_B2_0 := B2_10.f 0 (zD rfl)
 have g15_B2_1 := B2_10.f 1 (zD rfl)
 have g15_B2_2 := B2_10.f 2 (zD rfl)
 go_wp2
 clear c15_B2_0 c15_B2_1 c15_B2_2 g15_B2_0 g15_B2_1 g15_B2_2
 have d0 := Arr.c (B2_10.put 0 (zD rfl) (.int .i64 r10.1.1) [.int .i64 r10.1.1, .int .i64 0, .int .i64 0] rfl) 0 (zD rfl)
 have d1 := Arr.c ((B2_10.put 0 (zD rfl) (.int .i64 r10.1.1) [.int .i64 r10.1.1, .int .i64 0, .int .i64 0] rfl).put 1 (zD rfl) (.int .i64 r10.1.2.1) [.int .i64 r10.1.1, .int .i64 r10.1.2.1, .int .i64 0] rfl) 1 (zD rfl)
 have d2 := Arr.c (((B2_10.put 0 (zD rfl) (.int .i64 r10.1.1) [.int .i64 r10.1.1, .int .i64 0, .int .i64 0] rfl).put 1 (zD rfl) (.int .i64 r10.1.2.1) [.int .i64 r10.1.1, .int .i64 r10.1.2.1, .int .i64 0] rfl).put 2 (zD rfl) (.int .i64 r10.1.2.2) [.int .i64 r10.1.1, .int .i64 r10.1.2.1, .int .i64 r10.1.2.2] rfl) 2 (zD rfl)
 refine bodyPost_ret (v := .agg #[.int .i64 r10.1.1, .int .i64 r10.1.2.1, .int .i64 r10.1.2.2]) (by simp [results, Tryz.results87, go_sem, d0, d1, d2]) rfl ?_
 have hs : uCrossS bad p q = (r10.1, r10.2) := by unfold uCrossS; simp only [E1.out, E2.out, E3.out, E4.out, E5.out, E6.out, E7.out, E8.out, E9.out, E10.out]
 rw [hs]
 exact ⟨rfl, (((f10.new _ _ (by omega) _).new _ _ (by omega) _).new _ _ (by omega) _), (((K10.new _ _ (by omega) _).new _ _ (by omega) _).new _ _ (by omega) _)⟩
end Go.Proofs.YtpjobkbefgehjaaGreat
namespace Go.Proofs.YtpjobkbefgehjaaGreat
open Go.RowKit
theorem uUnit_any (b : Nat) (bad : Bool) (p : V3) (w : World) (hw : Fl b bad w) :
  Calls Tryz.prog 50 #[.pointer (some ⟨b, 0, none⟩), .agg #[.int .i64 p.1, .int .i64 p.2.1, .int .i64 p.2.2]] w fun e w' => e = .returned (.agg #[.int .i64 ((uUnitS bad p).1.1), .int .i64 ((uUnitS bad p).1.2.1), .int .i64 ((uUnitS bad p).1.2.2)]) ∧ Fl b (uUnitS bad p).2 w' ∧ Kept b w w' := by
 have hl := hw.lies
 go_enter Tryz.func50, Tryz.ntmps50
 go_wp2_with fail
 refine (uNorm_any b bad p _ ((hw.alloc _).alloc _)).mono ?_
 rintro e w1 ⟨rfl, f1, k1⟩
 generalize e1 : uNormS bad p = r1 at f1 ⊢
 have E1 : Hid _ := e1
 clear e1
 have K1 : Kept b w w1 := Kept.trans (((Kept.refl b w).al _).al _) k1
 have B0_1 : Arr w.heap.size [.int .i64 p.1, .int .i64 p.2.1, .int .i64 p.2.2] w1 := ((Arr_at _ _ [.int .i64 p.1, .int .i64 p.2.1, .int .i64 p.2.2] _ (by simp)).alloc _).kept k1 (by omega)
 have B1_1 : Arr (w.heap.size + 1) [.int .i64 0, .int .i64 0, .int .i64 0] w1 := (Arr_at _ _ [.int .i64 0, .int .i64 0, .int .i64 0] _ (by simp)).kept k1 (by omega)
 have z1 := B1_1.lies
 clear k1
 by_cases hc1 : r1.1 < 1048576
 ·have Hhc1 : Hid (r1.1 < 1048576) := hc1
  go_wp2_with fail
  refine (rFail_any b r1.2  _ f1).mono ?_
  rintro e w2 ⟨rfl, f2, k2⟩
  have K2 := Kept.trans K1 k2
  have B0_2 := B0_1.kept k2 (by omega)
  have B1_2 := B1_1.kept k2 (by omega)
  have z2 := B1_2.lies
  clear K1 f1 B0_1 B1_1 k2
  go_wp2_with fail
  refine wp_loop_rounds 4 ?_
  rw [rounds_succ]
  have c4_B0_0 : w2.cell? ⟨w.heap.size, 0, none⟩ = some (.int .i64 p.1) := B0_2.c 0 (zD rfl)
  have l4_B0 := B0_2.lies
  go_wp2_with fail
  refine (rDiv_any b true p.1 r1.1 _ (f2.alloc _)).mono ?_
  rintro e w3 ⟨rfl, f3, k3⟩
  generalize e3 : divS true p.1 r1.1 = r3 at f3 ⊢
  have E3 : Hid _ := e3
  clear e3
  have K3 : Kept b w w3 := Kept.trans (K2.al _) k3
  have B0_3 := (B0_2.alloc _).kept k3 (by omega)
  have B1_3 := (B1_2.alloc _).kept k3 (by omega)
  have B2_3 : Arr w2.heap.size [.int .i64 0, .int .i64 0, .int .i64 0] w3 := (Arr_at _ _ [.int .i64 0, .int .i64 0, .int .i64 0] _ (by simp)).kept k3 (by omega)
  have z3 := B2_3.lies
  clear c4_B0_0 l4_B0 K2 f2 B0_2 B1_2 k3
  have c5_B2_0 : w3.cell? ⟨w2.heap.size, 0, none⟩ = some (.int .i64 0) := B2_3.c 0 (zD rfl)
  have g5_B2_0 := B2_3.f 0 (zD rfl)
  go_wp2_with fail
  clear c5_B2_0 g5_B2_0
  rw [rounds_succ]
  have c6_B0_1 : w3.cell? ⟨w.heap.size, 1, none⟩ = some (.int .i64 p.2.1) := B0_3.c 1 (zD rfl)
  go_wp2_with fail
  refine (rDiv_any b r3.2 p.2.1 r1.1 _ (f3.new _ _ (by omega) _)).mono ?_
  rintro e w4 ⟨rfl, f4, k4⟩
  generalize e4 : divS r3.2 p.2.1 r1.1 = r4 at f4 ⊢
  have E4 : Hid _ := e4
  clear e4
  have K4 : Kept b w w4 := Kept.trans (K3.new _ _ (by omega) _) k4
  have B0_4 := (B0_3.new _ _ (by omega) _).kept k4 (by omega)
  have B1_4 := (B1_3.new _ _ (by omega) _).kept k4 (by omega)
  have B2_4 := (B2_3.put 0 (zD rfl) (.int .i64 r3.1) [.int .i64 r3.1, .int .i64 0, .int .i64 0] rfl).kept k4 (by omega)
  have z4 := B2_4.lies
  clear c6_B0_1 K3 f3 B0_3 B1_3 B2_3 k4
  have c7_B2_1 : w4.cell? ⟨w2.heap.size, 1, none⟩ = some (.int .i64 0) := B2_4.c 1 (zD rfl)
  have g7_B2_1 := B2_4.f 1 (zD rfl)
  go_wp2_with fail
  clear c7_B2_1 g7_B2_1
  rw [rounds_succ]
  have c8_B0_2 : w4.cell? ⟨w.heap.size, 2, none⟩ = some (.int .i64 p.2.2) := B0_4.c 2 (zD rfl)
  go_wp2_with fail
  refine (rDiv_any b r4.2 p.2.2 r1.1 _ (f4.new _ _ (by omega) _)).mono ?_
  rintro e w5 ⟨rfl, f5, k5⟩
  generalize e5 : divS r4.2 p.2.2 r1.1 = r5 at f5 ⊢
  have E5 : Hid _ := e5
  clear e5
  have K5 : Kept b w w5 := Kept.trans (K4.new _ _ (by omega) _) k5
  have B0_5 := (B0_4.new _ _ (by omega) _).kept k5 (by omega)
  have B1_5 := (B1_4.new _ _ (by omega) _).kept k5 (by omega)
  have B2_5 := (B2_4.put 1 (zD rfl) (.int .i64 r4.1) [.int .i64 r3.1, .int .i64 r4.1, .int .i64 0] rfl).kept k5 (by omega)
  have z5 := B2_5.lies
  clear c8_B0_2 K4 f4 B0_4 B1_4 B2_4 k5
  have c9_B2_2 : w5.cell? ⟨w2.heap.size, 2, none⟩ = some (.int .i64 0) := B2_5.c 2 (zD rfl)
  have g9_B2_2 := B2_5.f 2 (zD rfl)
  go_wp2_with fail
  clear c9_B2_2 g9_B2_2
  rw [rounds_succ]
  have c10_B2_0 : w5.cell? ⟨w2.heap.size, 0, none⟩ = some (.int .i64 r3.1) := B2_5.c 0 (zD rfl)
  have c10_B2_1 : w5.cell? ⟨w2.heap.size, 1, none⟩ = some (.int .i64 r4.1) := B2_5.c 1 (zD rfl)
  have c10_B2_2 : w5.cell? ⟨w2.heap.size, 2, none⟩ = some (.int .i64 0) := B2_5.c 2 (zD rfl)
  go_wp2_with fail
  refine (done_any b r5.2 (r3.1, r4.1, r5.1) _ (f5.new _ _ (by omega) _)).mono ?_
  rintro e w6 ⟨rfl, f6, k6⟩
  generalize e6 : soundS r5.2 (r3.1, r4.1, r5.1) = r6 at f6 ⊢
  have E6 : Hid _ := e6
  clear e6
  have K6 : Kept b w w6 := Kept.trans (K5.new _ _ (by omega) _) k6
  have B0_6 := (B0_5.new _ _ (by omega) _).kept k6 (by omega)
  have B1_6 := (B1_5.new _ _ (by omega) _).kept k6 (by omega)
  have B2_6 := (B2_5.put 2 (zD rfl) (.int .i64 r5.1) [.int .i64 r3.1, .int .i64 r4.1, .int .i64 r5.1] rfl).kept k6 (by omega)
  have z6 := B2_6.lies
  clear c10_B2_0 c10_B2_1 c10_B2_2 K5 f5 B0_5 B1_5 B2_5 k6
  have c11_B1_0 : w6.cell? ⟨w.heap.size + 1, 0, none⟩ = some (.int .i64 0) := B1_6.c 0 (zD rfl)
  have c11_B1_1 : w6.cell? ⟨w.heap.size + 1, 1, none⟩ = some (.int .i64 0) := B1_6.c 1 (zD rfl)
  have c11_B1_2 : w6.cell? ⟨w.heap.size + 1, 2, none⟩ = some (.int .i64 0) := B1_6.c 2 (zD rfl)
  have g11_B1_0 := B1_6.f 0 (zD rfl)
  have g11_B1_1 := B1_6.f 1 (zD rfl)
  have g11_B1_2 := B1_6.f 2 (zD rfl)
  go_wp2
  clear c11_B1_0 c11_B1_1 c11_B1_2 g11_B1_0 g11_B1_1 g11_B1_2
  have d0 := Arr.c (B1_6.put 0 (zD rfl) (.int .i64 r6.1.1) [.int .i64 r6.1.1, .int .i64 0, .int .i64 0] rfl) 0 (zD rfl)
  have d1 := Arr.c ((B1_6.put 0 (zD rfl) (.int .i64 r6.1.1) [.int .i64 r6.1.1, .int .i64 0, .int .i64 0] rfl).put 1 (zD rfl) (.int .i64 r6.1.2.1) [.int .i64 r6.1.1, .int .i64 r6.1.2.1, .int .i64 0] rfl) 1 (zD rfl)
  have d2 := Arr.c (((B1_6.put 0 (zD rfl) (.int .i64 r6.1.1) [.int .i64 r6.1.1, .int .i64 0, .int .i64 0] rfl).put 1 (zD rfl) (.int .i64 r6.1.2.1) [.int .i64 r6.1.1, .int .i64 r6.1.2.1, .int .i64 0] rfl).put 2 (zD rfl) (.int .i64 r6.1.2.2) [.int .i64 r6.1.1, .int .i64 r6.1.2.1, .int .i64 r6.1.2.2] rfl) 2 (zD rfl)
  refine bodyPost_ret (v := .agg #[.int .i64 r6.1.1, .int .i64 r6.1.2.1, .int .i64 r6.1.2.2]) (by simp [results, Tryz.results50, go_sem, d0, d1, d2]) rfl ?_
  have hs : uUnitS bad p = (r6.1, r6.2) := by unfold uUnitS; simp only [E1.out, E3.out, E4.out, E5.out, E6.out]; rw [if_pos (by have := Hhc1.out; omega)]
  rw [hs]
  exact ⟨rfl, (((f6.new _ _ (by omega) _).new _ _ (by omega) _).new _ _ (by omega) _), (((K6.new _ _ (by omega) _).new _ _ (by omega) _).new _ _ (by omega) _)⟩
 ·have Hhc1 : Hid (¬ r1.1 < 1048576) := hc1
  go_wp2_with fail
  refine wp_loop_rounds 4 ?_
  rw [rounds_succ]
  have c3_B0_0 : w1.cell? ⟨w.heap.size, 0, none⟩ = some (.int .i64 p.1) := B0_1.c 0 (zD rfl)
  have l3_B0 := B0_1.lies
  go_wp2_with fail
  refine (rDiv_any b r1.2 p.1 r1.1 _ (f1.alloc _)).mono ?_
  rintro e w2 ⟨rfl, f2, k2⟩
  generalize e2 : divS r1.2 p.1 r1.1 = r2 at f2 ⊢
  have E2 : Hid _ := e2
  clear e2
  have K2 : Kept b w w2 := Kept.trans (K1.al _) k2
  have B0_2 := (B0_1.alloc _).kept k2 (by omega)
  have B1_2 := (B1_1.alloc _).kept k2 (by omega)
  have B2_2 : Arr w1.heap.size [.int .i64 0, .int .i64 0, .int .i64 0] w2 := (Arr_at _ _ [.int .i64 0, .int .i64 0, .int .i64 0] _ (by simp)).kept k2 (by omega)
  have z2 := B2_2.lies
  clear c3_B0_0 l3_B0 K1 f1 B0_1 B1_1 k2
  have c4_B2_0 : w2.cell? ⟨w1.heap.size, 0, none⟩ = some (.int .i64 0) := B2_2.c 0 (zD rfl)
  have g4_B2_0 := B2_2.f 0 (zD rfl)
  go_wp2_with fail
  clear c4_B2_0 g4_B2_0
  rw [rounds_succ]
  have c5_B0_1 : w2.cell? ⟨w.heap.size, 1, none⟩ = some (.int .i64 p.2.1) := B0_2.c 1 (zD rfl)
  go_wp2_with fail
  refine (rDiv_any b r2.2 p.2.1 r1.1 _ (f2.new _ _ (by omega) _)).mono ?_
  rintro e w3 ⟨rfl, f3, k3⟩
  generalize e3 : divS r2.2 p.2.1 r1.1 = r3 at f3 ⊢
  have E3 : Hid _ := e3
  clear e3
  have K3 : Kept b w w3 := Kept.trans (K2.new _ _ (by omega) _) k3
  have B0_3 := (B0_2.new _ _ (by omega) _).kept k3 (by omega)
  have B1_3 := (B1_2.new _ _ (by omega) _).kept k3 (by omega)
  have B2_3 := (B2_2.put 0 (zD rfl) (.int .i64 r2.1) [.int .i64 r2.1, .int .i64 0, .int .i64 0] rfl).kept k3 (by omega)
  have z3 := B2_3.lies
  clear c5_B0_1 K2 f2 B0_2 B1_2 B2_2 k3
  have c6_B2_1 : w3.cell? ⟨w1.heap.size, 1, none⟩ = some (.int .i64 0) := B2_3.c 1 (zD rfl)
  have g6_B2_1 := B2_3.f 1 (zD rfl)
  go_wp2_with fail
  clear c6_B2_1 g6_B2_1
  rw [rounds_succ]
  have c7_B0_2 : w3.cell? ⟨w.heap.size, 2, none⟩ = some (.int .i64 p.2.2) := B0_3.c 2 (zD rfl)
  go_wp2_with fail
  refine (rDiv_any b r3.2 p.2.2 r1.1 _ (f3.new _ _ (by omega) _)).mono ?_
  rintro e w4 ⟨rfl, f4, k4⟩
  generalize e4 : divS r3.2 p.2.2 r1.1 = r4 at f4 ⊢
  have E4 : Hid _ := e4
  clear e4
  have K4 : Kept b w w4 := Kept.trans (K3.new _ _ (by omega) _) k4
  have B0_4 := (B0_3.new _ _ (by omega) _).kept k4 (by omega)
  have B1_4 := (B1_3.new _ _ (by omega) _).kept k4 (by omega)
  have B2_4 := (B2_3.put 1 (zD rfl) (.int .i64 r3.1) [.int .i64 r2.1, .int .i64 r3.1, .int .i64 0] rfl).kept k4 (by omega)
  have z4 := B2_4.lies
  clear c7_B0_2 K3 f3 B0_3 B1_3 B2_3 k4
  have c8_B2_2 : w4.cell? ⟨w1.heap.size, 2, none⟩ = some (.int .i64 0) := B2_4.c 2 (zD rfl)
  have g8_B2_2 := B2_4.f 2 (zD rfl)
  go_wp2_with fail
  clear c8_B2_2 g8_B2_2
  rw [rounds_succ]
  have c9_B2_0 : w4.cell? ⟨w1.heap.size, 0, none⟩ = some (.int .i64 r2.1) := B2_4.c 0 (zD rfl)
  have c9_B2_1 : w4.cell? ⟨w1.heap.size, 1, none⟩ = some (.int .i64 r3.1) := B2_4.c 1 (zD rfl)
  have c9_B2_2 : w4.cell? ⟨w1.heap.size, 2, none⟩ = some (.int .i64 0) := B2_4.c 2 (zD rfl)
  go_wp2_with fail
  refine (done_any b r4.2 (r2.1, r3.1, r4.1) _ (f4.new _ _ (by omega) _)).mono ?_
  rintro e w5 ⟨rfl, f5, k5⟩
  generalize e5 : soundS r4.2 (r2.1, r3.1, r4.1) = r5 at f5 ⊢
  have E5 : Hid _ := e5
  clear e5
  have K5 : Kept b w w5 := Kept.trans (K4.new _ _ (by omega) _) k5
  have B0_5 := (B0_4.new _ _ (by omega) _).kept k5 (by omega)
  have B1_5 := (B1_4.new _ _ (by omega) _).kept k5 (by omega)
  have B2_5 := (B2_4.put 2 (zD rfl) (.int .i64 r4.1) [.int .i64 r2.1, .int .i64 r3.1, .int .i64 r4.1] rfl).kept k5 (by omega)
  have z5 := B2_5.lies
  clear c9_B2_0 c9_B2_1 c9_B2_2 K4 f4 B0_4 B1_4 B2_4 k5
  have c10_B1_0 : w5.cell? ⟨w.heap.size + 1, 0, none⟩ = some (.int .i64 0) := B1_5.c 0 (zD rfl)
  have c10_B1_1 : w5.cell? ⟨w.heap.size + 1, 1, none⟩ = some (.int .i64 0) := B1_5.c 1 (zD rfl)
  have c10_B1_2 : w5.cell? ⟨w.heap.size + 1, 2, none⟩ = some (.int .i64 0) := B1_5.c 2 (zD rfl)
  have g10_B1_0 := B1_5.f 0 (zD rfl)
  have g10_B1_1 := B1_5.f 1 (zD rfl)
  have g10_B1_2 := B1_5.f 2 (zD rfl)
  go_wp2
  clear c10_B1_0 c10_B1_1 c10_B1_2 g10_B1_0 g10_B1_1 g10_B1_2
  have d0 := Arr.c (B1_5.put 0 (zD rfl) (.int .i64 r5.1.1) [.int .i64 r5.1.1, .int .i64 0, .int .i64 0] rfl) 0 (zD rfl)
  have d1 := Arr.c ((B1_5.put 0 (zD rfl) (.int .i64 r5.1.1) [.int .i64 r5.1.1, .int .i64 0, .int .i64 0] rfl).put 1 (zD rfl) (.int .i64 r5.1.2.1) [.int .i64 r5.1.1, .int .i64 r5.1.2.1, .int .i64 0] rfl) 1 (zD rfl)
  have d2 := Arr.c (((B1_5.put 0 (zD rfl) (.int .i64 r5.1.1) [.int .i64 r5.1.1, .int .i64 0, .int .i64 0] rfl).put 1 (zD rfl) (.int .i64 r5.1.2.1) [.int .i64 r5.1.1, .int .i64 r5.1.2.1, .int .i64 0] rfl).put 2 (zD rfl) (.int .i64 r5.1.2.2) [.int .i64 r5.1.1, .int .i64 r5.1.2.1, .int .i64 r5.1.2.2] rfl) 2 (zD rfl)
  refine bodyPost_ret (v := .agg #[.int .i64 r5.1.1, .int .i64 r5.1.2.1, .int .i64 r5.1.2.2]) (by simp [results, Tryz.results50, go_sem, d0, d1, d2]) rfl ?_
  have hs : uUnitS bad p = (r5.1, r5.2) := by unfold uUnitS; simp only [E1.out, E2.out, E3.out, E4.out, E5.out]; rw [if_neg (by have := Hhc1.out; omega)]
  rw [hs]
  exact ⟨rfl, (((f5.new _ _ (by omega) _).new _ _ (by omega) _).new _ _ (by omega) _), (((K5.new _ _ (by omega) _).new _ _ (by omega) _).new _ _ (by omega) _)⟩
end Go.Proofs.YtpjobkbefgehjaaGreat
namespace Go.Proofs.YtpjobkbefgehjaaGreat
open Go.RowKit
theorem xAdd_any (b : Nat) (bad : Bool) (p : V3) (q : V3) (w : World) (hw : Fl b bad w) :
  Calls Tryz.prog 41 #[.pointer (some ⟨b, 0, none⟩), .agg #[.int .i64 p.1, .int .i64 p.2.1, .int .i64 p.2.2], .agg #[.int .i64 q.1, .int .i64 q.2.1, .int .i64 q.2.2]] w fun e w' => e = .returned (.agg #[.int .i64 ((vAddS bad p q).1.1), .int .i64 ((vAddS bad p q).1.2.1), .int .i64 ((vAddS bad p q).1.2.2)]) ∧ Fl b (vAddS bad p q).2 w' ∧ Kept b w w' := by
 have h := uAdd_any b bad p q w hw
 rw [uAdd_eq] at h
 exact h
end Go.Proofs.YtpjobkbefgehjaaGreat
