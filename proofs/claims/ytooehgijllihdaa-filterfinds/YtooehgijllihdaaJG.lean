/- A part. -/
import Derived.Test.YtooehgijllihdaaJA
import Derived.Test.YtooehgijllihdaaJC
import Derived.Test.YtooehgijllihdaaVCode
import Derived.Handy
import Derived.Deep.RegionHeld3
namespace Go.Proofs.Ytooehgijllihdaa
open Go.RowKit
set_option maxRecDepth 100000
set_option maxHeartbeats 20000000
theorem sound4_any (b : Nat) (bad : Bool) (v : V4) (w : World) (hw : Fl b bad w) :
  Calls Try.prog 29 #[.pointer (some ⟨b, 0, none⟩), .agg #[.int .i64 v.1, .int .i64 v.2.1, .int .i64 v.2.2.1, .int .i64 v.2.2.2]] w fun e w' => e = .returned (.agg #[.int .i64 (sound4S bad v).1.1, .int .i64 (sound4S bad v).1.2.1, .int .i64 (sound4S bad v).1.2.2.1, .int .i64 (sound4S bad v).1.2.2.2]) ∧ Fl b (sound4S bad v).2 w' ∧ Kept b w w' := by
 have hc := hw.cell
 have hl := hw.lies
 have HW : Hid _ := hw
 clear hw
 cases bad
 ·go_enter Try.func29, Try.ntmps29
  go_wp2
  refine bodyPost_ret (v := .agg #[.int .i64 v.1, .int .i64 v.2.1, .int .i64 v.2.2.1, .int .i64 v.2.2.2]) (by simp [results, Try.results29, go_sem]) rfl ?_
  exact ⟨rfl, (HW.out.alloc _).alloc _, ((Kept.refl _ _).al _).al _⟩
 ·go_enter Try.func29, Try.ntmps29
  go_wp2
  refine bodyPost_ret (v := .agg #[.int .i64 0, .int .i64 0, .int .i64 0, .int .i64 0]) (by simp [results, Try.results29, go_sem]) rfl ?_
  exact ⟨rfl, ((HW.out.alloc _).alloc _).alloc _, (((Kept.refl _ _).al _).al _).al _⟩
theorem sound3_any (b : Nat) (bad : Bool) (v : V3) (w : World) (hw : Fl b bad w) :
  Calls Try.prog 45 #[.pointer (some ⟨b, 0, none⟩), .agg #[.int .i64 v.1, .int .i64 v.2.1, .int .i64 v.2.2]] w fun e w' => e = .returned (.agg #[.int .i64 (soundS bad v).1.1, .int .i64 (soundS bad v).1.2.1, .int .i64 (soundS bad v).1.2.2]) ∧ Fl b (soundS bad v).2 w' ∧ Kept b w w' := by
 have hc := hw.cell
 have hl := hw.lies
 have HW : Hid _ := hw
 clear hw
 cases bad
 ·go_enter Try.func45, Try.ntmps45
  go_wp2
  refine bodyPost_ret (v := .agg #[.int .i64 v.1, .int .i64 v.2.1, .int .i64 v.2.2]) (by simp [results, Try.results45, go_sem]) rfl ?_
  exact ⟨rfl, (HW.out.alloc _).alloc _, ((Kept.refl _ _).al _).al _⟩
 ·go_enter Try.func45, Try.ntmps45
  go_wp2
  refine bodyPost_ret (v := .agg #[.int .i64 0, .int .i64 0, .int .i64 0]) (by simp [results, Try.results45, go_sem]) rfl ?_
  exact ⟨rfl, ((HW.out.alloc _).alloc _).alloc _, (((Kept.refl _ _).al _).al _).al _⟩
theorem minus_any (a : Int) (w : World) :
  Calls Try.prog 46 #[.int .i64 a] w fun e w' => e = .returned (.int .i64 (minusS a)) ∧ Below w.heap.size w w' := by
 by_cases h1 : a < -4611686018427387904
 ·have HS : Hid _ := minusS_lo h1
  go_enter Try.func46, Try.ntmps46
  go_wp2
  go_ret
  rw [HS.out]
  exact ⟨rfl, Below.refl _ _⟩
 ·by_cases h2 : 4611686018427387904 < a
  ·have HS : Hid _ := minusS_hi h2
   go_enter Try.func46, Try.ntmps46
   go_wp2
   go_ret
   rw [HS.out]
   exact ⟨rfl, Below.refl _ _⟩
  ·have HS : Hid _ := minusS_in (by omega) (by omega : a ≤ 4611686018427387904)
   go_enter Try.func46, Try.ntmps46
   go_wp2
   go_ret
   rw [HS.out]
   exact ⟨rfl, Below.refl _ _⟩
theorem parted_any0 (q : V4) (w : World) :
  Calls Try.prog 15 #[.agg #[.int .i64 q.1, .int .i64 q.2.1, .int .i64 q.2.2.1, .int .i64 q.2.2.2]] w fun e w' => e = .returned (.tuple #[.agg #[.int .i64 (partedS q).1.1, .int .i64 (partedS q).1.2.1, .int .i64 (partedS q).1.2.2], .int .i64 (partedS q).2]) ∧ Below w.heap.size w w' := by
 go_enter Try.func15, Try.ntmps15
 go_wp2_with fail
 refine wp_region_held_drew (S := fun w' => Arr w.heap.size [.int .i64 q.1, .int .i64 q.2.1, .int .i64 q.2.2.1, .int .i64 q.2.2.2] w') (by kernel_rfl) ((Arr_at _ _ [.int .i64 q.1, .int .i64 q.2.1, .int .i64 q.2.2.1, .int .i64 q.2.2.2] _ (by simp)).alloc _).drew (fun zH => ?_)
 refine zT 0 rfl (by kernel_rfl) (fun _ _ _ => id) rfl (fun _ _ => by go_simp <;> with_reducible rfl) zH ?_
 simp only [Act.put, zA, zB, zC]
 refine zT 1 rfl (by kernel_rfl) (fun _ _ _ => id) rfl (fun wx hS => by have hc0 : wx.cell? ⟨w.heap.size, 0, none⟩ = some (.int .i64 q.1) := hS.c 0 (zD rfl); go_simp <;> with_reducible rfl) zH ?_
 simp only [Act.put, zA, zB, zC]
 refine zT 2 rfl (by kernel_rfl) (fun _ _ _ => id) rfl (fun _ _ => by go_simp <;> with_reducible rfl) zH ?_
 simp only [Act.put, zA, zB, zC]
 refine zT 3 rfl (by kernel_rfl) (fun _ _ _ => id) rfl (fun wx hS => by have hc1 : wx.cell? ⟨w.heap.size, 1, none⟩ = some (.int .i64 q.2.1) := hS.c 1 (zD rfl); go_simp <;> with_reducible rfl) zH ?_
 simp only [Act.put, zA, zB, zC]
 refine zT 4 rfl (by kernel_rfl) (fun _ _ _ => id) rfl (fun _ _ => by go_simp <;> with_reducible rfl) zH ?_
 simp only [Act.put, zA, zB, zC]
 refine zT 5 rfl (by kernel_rfl) (fun _ _ _ => id) rfl (fun wx hS => by have hc2 : wx.cell? ⟨w.heap.size, 2, none⟩ = some (.int .i64 q.2.2.1) := hS.c 2 (zD rfl); go_simp <;> with_reducible rfl) zH ?_
 simp only [Act.put, zA, zB, zC]
 refine zT 6 rfl (by kernel_rfl) (fun _ _ _ => id) rfl (fun _ _ => by go_simp <;> with_reducible rfl) zH ?_
 simp only [Act.put, zA, zB, zC]
 refine zT 7 rfl (by kernel_rfl) (fun _ _ _ => id) rfl (fun _ _ => by go_simp <;> with_reducible rfl) zH ?_
 simp only [Act.put, zA, zB, zC]
 refine zT 8 rfl (by kernel_rfl) (fun _ _ _ => id) rfl (fun wx hS => by have hc3 : wx.cell? ⟨w.heap.size, 3, none⟩ = some (.int .i64 q.2.2.2) := hS.c 3 (zD rfl); go_simp <;> with_reducible rfl) zH ?_
 simp only [Act.put, zA, zB, zC]
 refine zK 9 (by kernel_rfl) rfl (fun K hK => ?_)
 go_simp
 clear zH
 refine hK.out _ _ ((Arr_at _ _ [.int .i64 q.1, .int .i64 q.2.1, .int .i64 q.2.2.1, .int .i64 q.2.2.2] _ (by simp)).alloc _).drew (fun zH => ?_)
 clear hK K
 refine zT 10 rfl (by kernel_rfl) (fun _ _ _ => id) rfl (fun _ _ => by go_simp <;> with_reducible rfl) zH ?_
 simp only [Act.put, zA, zB, zC]
 refine wpAnyH_done (by kernel_rfl) ?_ _
 clear zH
 go_wp2
 refine bodyPost_ret (v := .tuple #[.agg #[.int .i64 q.1, .int .i64 q.2.1, .int .i64 q.2.2.1], .int .i64 q.2.2.2]) (by simp [results, Try.results15, go_sem]) rfl ?_
 have hs : partedS q = ((q.1, q.2.1, q.2.2.1), q.2.2.2) := rfl
 rw [hs]
 exact ⟨rfl, (Below.drew (bel_al (bel_al (Below.refl w.heap.size w) _) _))⟩
theorem joined_any0 (p : V3) (k : Int) (w : World) :
  Calls Try.prog 30 #[.agg #[.int .i64 p.1, .int .i64 p.2.1, .int .i64 p.2.2], .int .i64 k] w fun e w' => e = .returned (.agg #[.int .i64 (joinedS p k).1, .int .i64 (joinedS p k).2.1, .int .i64 (joinedS p k).2.2.1, .int .i64 (joinedS p k).2.2.2]) ∧ Below w.heap.size w w' := by
 go_enter Try.func30, Try.ntmps30
 go_wp2
 refine bodyPost_ret (v := .agg #[.int .i64 p.1, .int .i64 p.2.1, .int .i64 p.2.2, .int .i64 k]) (by simp [results, Try.results30, go_sem]) rfl ?_
 have hs : joinedS p k = (p.1, p.2.1, p.2.2, k) := rfl
 rw [hs]
 exact ⟨rfl, (bel_al (bel_al (Below.refl w.heap.size w) _) _)⟩
theorem upright_any (q : V4) (w : World) :
  Calls Try.prog 19 #[.agg #[.int .i64 q.1, .int .i64 q.2.1, .int .i64 q.2.2.1, .int .i64 q.2.2.2]] w fun e w' => e = .returned (.agg #[.int .i64 (uprightS q).1, .int .i64 (uprightS q).2.1, .int .i64 (uprightS q).2.2.1, .int .i64 (uprightS q).2.2.2]) ∧ Below w.heap.size w w' := by
 go_enter Try.func19, Try.ntmps19
 by_cases hc1 : q.2.2.2 ≥ 0
 ·have Hhc1 : Hid (q.2.2.2 ≥ 0) := hc1
  go_wp2
  refine bodyPost_ret (v := .agg #[.int .i64 q.1, .int .i64 q.2.1, .int .i64 q.2.2.1, .int .i64 q.2.2.2]) (by simp [results, Try.results19, go_sem]) rfl ?_
  have hs : uprightS q = q := by unfold uprightS; rw [if_pos (by have := Hhc1.out; omega)]
  rw [hs]
  exact ⟨rfl, (bel_al (bel_al (Below.refl w.heap.size w) _) _)⟩
 ·have Hhc1 : Hid (¬ q.2.2.2 ≥ 0) := hc1
  go_wp2_with fail
  refine wp_region_held_drew (S := fun w' => Arr w.heap.size [.int .i64 q.1, .int .i64 q.2.1, .int .i64 q.2.2.1, .int .i64 q.2.2.2] w') (by kernel_rfl) ((Arr_at _ _ [.int .i64 q.1, .int .i64 q.2.1, .int .i64 q.2.2.1, .int .i64 q.2.2.2] _ (by simp)).alloc _).drew (fun zH => ?_)
  refine zT 0 rfl (by kernel_rfl) (fun _ _ _ => id) rfl (fun _ _ => by go_simp <;> with_reducible rfl) zH ?_
  simp only [Act.put, zA, zB, zC]
  refine zT 1 rfl (by kernel_rfl) (fun _ _ _ => id) rfl (fun wx hS => by have hc0 : wx.cell? ⟨w.heap.size, 0, none⟩ = some (.int .i64 q.1) := hS.c 0 (zD rfl); go_simp <;> with_reducible rfl) zH ?_
  simp only [Act.put, zA, zB, zC]
  refine zT 3 rfl (by kernel_rfl) (fun _ _ _ => id) rfl (fun _ _ => by go_simp <;> with_reducible rfl) zH ?_
  simp only [Act.put, zA, zB, zC]
  refine zT 4 rfl (by kernel_rfl) (fun _ _ _ => id) rfl (fun wx hS => by have hc1 : wx.cell? ⟨w.heap.size, 1, none⟩ = some (.int .i64 q.2.1) := hS.c 1 (zD rfl); go_simp <;> with_reducible rfl) zH ?_
  simp only [Act.put, zA, zB, zC]
  refine zT 6 rfl (by kernel_rfl) (fun _ _ _ => id) rfl (fun _ _ => by go_simp <;> with_reducible rfl) zH ?_
  simp only [Act.put, zA, zB, zC]
  refine zT 7 rfl (by kernel_rfl) (fun _ _ _ => id) rfl (fun wx hS => by have hc2 : wx.cell? ⟨w.heap.size, 2, none⟩ = some (.int .i64 q.2.2.1) := hS.c 2 (zD rfl); go_simp <;> with_reducible rfl) zH ?_
  simp only [Act.put, zA, zB, zC]
  refine zT 9 rfl (by kernel_rfl) (fun _ _ _ => id) rfl (fun _ _ => by go_simp <;> with_reducible rfl) zH ?_
  simp only [Act.put, zA, zB, zC]
  refine zT 10 rfl (by kernel_rfl) (fun _ _ _ => id) rfl (fun wx hS => by have hc3 : wx.cell? ⟨w.heap.size, 3, none⟩ = some (.int .i64 q.2.2.2) := hS.c 3 (zD rfl); go_simp <;> with_reducible rfl) zH ?_
  simp only [Act.put, zA, zB, zC]
  refine zK 2 (by kernel_rfl) rfl (fun K hK => ?_)
  go_simp
  refine (minus_any q.1 _).mono ?_
  rintro e w1 ⟨rfl, k1⟩
  generalize e1 : minusS q.1 = r1
  have E1 : Hid _ := e1
  clear e1
  have K1 : Below w.heap.size w w1 := bel_then (Below.drew (bel_al (bel_al (Below.refl w.heap.size w) _) _)) k1
  have B0_1 := ((Arr_at _ w.heap.size [.int .i64 q.1, .int .i64 q.2.1, .int .i64 q.2.2.1, .int .i64 q.2.2.2] _ (by simp)).alloc _).drew.below k1
  have B1_1 := (Arr_at _ (w.heap.size + 1) [.int .i64 0, .int .i64 0, .int .i64 0, .int .i64 0] _ (by simp)).drew.below k1
  have z1 := B1_1.lies
  clear zH
  refine hK.out _ _ B0_1 (fun zH => ?_)
  clear hK K k1
  refine zK 5 (by kernel_rfl) rfl (fun K hK => ?_)
  go_simp
  refine (minus_any q.2.1 _).mono ?_
  rintro e w2 ⟨rfl, k2⟩
  generalize e2 : minusS q.2.1 = r2
  have E2 : Hid _ := e2
  clear e2
  have K2 : Below w.heap.size w w2 := bel_then K1 k2
  have B0_2 := B0_1.below k2
  have B1_2 := B1_1.below k2
  have z2 := B1_2.lies
  clear zH
  refine hK.out _ _ B0_2 (fun zH => ?_)
  clear hK K K1 B0_1 B1_1 k2
  refine zK 8 (by kernel_rfl) rfl (fun K hK => ?_)
  go_simp
  refine (minus_any q.2.2.1 _).mono ?_
  rintro e w3 ⟨rfl, k3⟩
  generalize e3 : minusS q.2.2.1 = r3
  have E3 : Hid _ := e3
  clear e3
  have K3 : Below w.heap.size w w3 := bel_then K2 k3
  have B0_3 := B0_2.below k3
  have B1_3 := B1_2.below k3
  have z3 := B1_3.lies
  clear zH
  refine hK.out _ _ B0_3 (fun zH => ?_)
  clear hK K K2 B0_2 B1_2 k3
  refine zK 11 (by kernel_rfl) rfl (fun K hK => ?_)
  go_simp
  refine (minus_any q.2.2.2 _).mono ?_
  rintro e w4 ⟨rfl, k4⟩
  generalize e4 : minusS q.2.2.2 = r4
  have E4 : Hid _ := e4
  clear e4
  have K4 : Below w.heap.size w w4 := bel_then K3 k4
  have B0_4 := B0_3.below k4
  have B1_4 := B1_3.below k4
  have z4 := B1_4.lies
  clear zH
  refine hK.out _ _ B0_4 (fun zH => ?_)
  clear hK K K3 B0_3 B1_3 k4
  refine zT 12 rfl (by kernel_rfl) (fun _ _ _ => id) rfl (fun _ _ => by go_simp <;> with_reducible rfl) zH ?_
  simp only [Act.put, zA, zB, zC]
  refine zK 13 (by kernel_rfl) rfl (fun K hK => ?_)
  have c2_B1_0 : w4.cell? ⟨w.heap.size + 1, 0, none⟩ = some (.int .i64 0) := B1_4.c 0 (zD rfl)
  have c2_B1_1 : w4.cell? ⟨w.heap.size + 1, 1, none⟩ = some (.int .i64 0) := B1_4.c 1 (zD rfl)
  have c2_B1_2 : w4.cell? ⟨w.heap.size + 1, 2, none⟩ = some (.int .i64 0) := B1_4.c 2 (zD rfl)
  have c2_B1_3 : w4.cell? ⟨w.heap.size + 1, 3, none⟩ = some (.int .i64 0) := B1_4.c 3 (zD rfl)
  have g2_B1_0 := B1_4.f 0 (zD rfl)
  have g2_B1_1 := B1_4.f 1 (zD rfl)
  have g2_B1_2 := B1_4.f 2 (zD rfl)
  have g2_B1_3 := B1_4.f 3 (zD rfl)
  go_simp
  clear zH
  refine hK.out _ _ ((((B0_4.new _ _ (by omega) _).new _ _ (by omega) _).new _ _ (by omega) _).new _ _ (by omega) _) (fun zH => ?_)
  clear hK K c2_B1_0 c2_B1_1 c2_B1_2 c2_B1_3 g2_B1_0 g2_B1_1 g2_B1_2 g2_B1_3
  refine wpAnyH_done (by kernel_rfl) ?_ _
  clear zH
  go_wp2
  have d0 := Arr.c (B1_4.put 0 (zD rfl) (.int .i64 r1) [.int .i64 r1, .int .i64 0, .int .i64 0, .int .i64 0] rfl) 0 (zD rfl)
  have d1 := Arr.c ((B1_4.put 0 (zD rfl) (.int .i64 r1) [.int .i64 r1, .int .i64 0, .int .i64 0, .int .i64 0] rfl).put 1 (zD rfl) (.int .i64 r2) [.int .i64 r1, .int .i64 r2, .int .i64 0, .int .i64 0] rfl) 1 (zD rfl)
  have d2 := Arr.c (((B1_4.put 0 (zD rfl) (.int .i64 r1) [.int .i64 r1, .int .i64 0, .int .i64 0, .int .i64 0] rfl).put 1 (zD rfl) (.int .i64 r2) [.int .i64 r1, .int .i64 r2, .int .i64 0, .int .i64 0] rfl).put 2 (zD rfl) (.int .i64 r3) [.int .i64 r1, .int .i64 r2, .int .i64 r3, .int .i64 0] rfl) 2 (zD rfl)
  have d3 := Arr.c ((((B1_4.put 0 (zD rfl) (.int .i64 r1) [.int .i64 r1, .int .i64 0, .int .i64 0, .int .i64 0] rfl).put 1 (zD rfl) (.int .i64 r2) [.int .i64 r1, .int .i64 r2, .int .i64 0, .int .i64 0] rfl).put 2 (zD rfl) (.int .i64 r3) [.int .i64 r1, .int .i64 r2, .int .i64 r3, .int .i64 0] rfl).put 3 (zD rfl) (.int .i64 r4) [.int .i64 r1, .int .i64 r2, .int .i64 r3, .int .i64 r4] rfl) 3 (zD rfl)
  refine bodyPost_ret (v := .agg #[.int .i64 r1, .int .i64 r2, .int .i64 r3, .int .i64 r4]) (by simp [results, Try.results19, go_sem, d0, d1, d2, d3]) rfl ?_
  have hs : uprightS q = (r1, r2, r3, r4) := by unfold uprightS; simp only [E1.out, E2.out, E3.out, E4.out]; rw [if_neg (by have := Hhc1.out; omega)]
  rw [hs]
  exact ⟨rfl, (bel_new (bel_new (bel_new (bel_new K4 _ _ (by omega) _) _ _ (by omega) _) _ _ (by omega) _) _ _ (by omega) _)⟩
theorem qBack_any (q : V4) (w : World) :
  Calls Try.prog 12 #[.agg #[.int .i64 q.1, .int .i64 q.2.1, .int .i64 q.2.2.1, .int .i64 q.2.2.2]] w fun e w' => e = .returned (.agg #[.int .i64 (qBackS q).1, .int .i64 (qBackS q).2.1, .int .i64 (qBackS q).2.2.1, .int .i64 (qBackS q).2.2.2]) ∧ Below w.heap.size w w' := by
 go_enter Try.func12, Try.ntmps12
 go_wp2_with fail
 refine wp_region_held_drew (S := fun w' => Arr w.heap.size [.int .i64 q.1, .int .i64 q.2.1, .int .i64 q.2.2.1, .int .i64 q.2.2.2] w') (by kernel_rfl) ((Arr_at _ _ [.int .i64 q.1, .int .i64 q.2.1, .int .i64 q.2.2.1, .int .i64 q.2.2.2] _ (by simp)).alloc _).drew (fun zH => ?_)
 refine zT 0 rfl (by kernel_rfl) (fun _ _ _ => id) rfl (fun _ _ => by go_simp <;> with_reducible rfl) zH ?_
 simp only [Act.put, zA, zB, zC]
 refine zT 1 rfl (by kernel_rfl) (fun _ _ _ => id) rfl (fun wx hS => by have hc0 : wx.cell? ⟨w.heap.size, 0, none⟩ = some (.int .i64 q.1) := hS.c 0 (zD rfl); go_simp <;> with_reducible rfl) zH ?_
 simp only [Act.put, zA, zB, zC]
 refine zT 3 rfl (by kernel_rfl) (fun _ _ _ => id) rfl (fun _ _ => by go_simp <;> with_reducible rfl) zH ?_
 simp only [Act.put, zA, zB, zC]
 refine zT 4 rfl (by kernel_rfl) (fun _ _ _ => id) rfl (fun wx hS => by have hc1 : wx.cell? ⟨w.heap.size, 1, none⟩ = some (.int .i64 q.2.1) := hS.c 1 (zD rfl); go_simp <;> with_reducible rfl) zH ?_
 simp only [Act.put, zA, zB, zC]
 refine zT 6 rfl (by kernel_rfl) (fun _ _ _ => id) rfl (fun _ _ => by go_simp <;> with_reducible rfl) zH ?_
 simp only [Act.put, zA, zB, zC]
 refine zT 7 rfl (by kernel_rfl) (fun _ _ _ => id) rfl (fun wx hS => by have hc2 : wx.cell? ⟨w.heap.size, 2, none⟩ = some (.int .i64 q.2.2.1) := hS.c 2 (zD rfl); go_simp <;> with_reducible rfl) zH ?_
 simp only [Act.put, zA, zB, zC]
 refine zT 9 rfl (by kernel_rfl) (fun _ _ _ => id) rfl (fun _ _ => by go_simp <;> with_reducible rfl) zH ?_
 simp only [Act.put, zA, zB, zC]
 refine zT 10 rfl (by kernel_rfl) (fun _ _ _ => id) rfl (fun wx hS => by have hc3 : wx.cell? ⟨w.heap.size, 3, none⟩ = some (.int .i64 q.2.2.2) := hS.c 3 (zD rfl); go_simp <;> with_reducible rfl) zH ?_
 simp only [Act.put, zA, zB, zC]
 refine zK 2 (by kernel_rfl) rfl (fun K hK => ?_)
 go_simp
 refine (minus_any q.1 _).mono ?_
 rintro e w1 ⟨rfl, k1⟩
 generalize e1 : minusS q.1 = r1
 have E1 : Hid _ := e1
 clear e1
 have K1 : Below w.heap.size w w1 := bel_then (Below.drew (bel_al (bel_al (Below.refl w.heap.size w) _) _)) k1
 have B0_1 := ((Arr_at _ w.heap.size [.int .i64 q.1, .int .i64 q.2.1, .int .i64 q.2.2.1, .int .i64 q.2.2.2] _ (by simp)).alloc _).drew.below k1
 have B1_1 := (Arr_at _ (w.heap.size + 1) [.int .i64 0, .int .i64 0, .int .i64 0, .int .i64 0] _ (by simp)).drew.below k1
 have z1 := B1_1.lies
 clear zH
 refine hK.out _ _ B0_1 (fun zH => ?_)
 clear hK K k1
 refine zK 5 (by kernel_rfl) rfl (fun K hK => ?_)
 go_simp
 refine (minus_any q.2.1 _).mono ?_
 rintro e w2 ⟨rfl, k2⟩
 generalize e2 : minusS q.2.1 = r2
 have E2 : Hid _ := e2
 clear e2
 have K2 : Below w.heap.size w w2 := bel_then K1 k2
 have B0_2 := B0_1.below k2
 have B1_2 := B1_1.below k2
 have z2 := B1_2.lies
 clear zH
 refine hK.out _ _ B0_2 (fun zH => ?_)
 clear hK K K1 B0_1 B1_1 k2
 refine zK 8 (by kernel_rfl) rfl (fun K hK => ?_)
 go_simp
 refine (minus_any q.2.2.1 _).mono ?_
 rintro e w3 ⟨rfl, k3⟩
 generalize e3 : minusS q.2.2.1 = r3
 have E3 : Hid _ := e3
 clear e3
 have K3 : Below w.heap.size w w3 := bel_then K2 k3
 have B0_3 := B0_2.below k3
 have B1_3 := B1_2.below k3
 have z3 := B1_3.lies
 clear zH
 refine hK.out _ _ B0_3 (fun zH => ?_)
 clear hK K K2 B0_2 B1_2 k3
 refine zT 11 rfl (by kernel_rfl) (fun _ _ _ => id) rfl (fun _ _ => by go_simp <;> with_reducible rfl) zH ?_
 simp only [Act.put, zA, zB, zC]
 refine zK 12 (by kernel_rfl) rfl (fun K hK => ?_)
 have c2_B1_0 : w3.cell? ⟨w.heap.size + 1, 0, none⟩ = some (.int .i64 0) := B1_3.c 0 (zD rfl)
 have c2_B1_1 : w3.cell? ⟨w.heap.size + 1, 1, none⟩ = some (.int .i64 0) := B1_3.c 1 (zD rfl)
 have c2_B1_2 : w3.cell? ⟨w.heap.size + 1, 2, none⟩ = some (.int .i64 0) := B1_3.c 2 (zD rfl)
 have c2_B1_3 : w3.cell? ⟨w.heap.size + 1, 3, none⟩ = some (.int .i64 0) := B1_3.c 3 (zD rfl)
 have g2_B1_0 := B1_3.f 0 (zD rfl)
 have g2_B1_1 := B1_3.f 1 (zD rfl)
 have g2_B1_2 := B1_3.f 2 (zD rfl)
 have g2_B1_3 := B1_3.f 3 (zD rfl)
 go_simp
 clear zH
 refine hK.out _ _ ((((B0_3.new _ _ (by omega) _).new _ _ (by omega) _).new _ _ (by omega) _).new _ _ (by omega) _) (fun zH => ?_)
 clear hK K c2_B1_0 c2_B1_1 c2_B1_2 c2_B1_3 g2_B1_0 g2_B1_1 g2_B1_2 g2_B1_3
 refine wpAnyH_done (by kernel_rfl) ?_ _
 clear zH
 go_wp2
 have d0 := Arr.c (B1_3.put 0 (zD rfl) (.int .i64 r1) [.int .i64 r1, .int .i64 0, .int .i64 0, .int .i64 0] rfl) 0 (zD rfl)
 have d1 := Arr.c ((B1_3.put 0 (zD rfl) (.int .i64 r1) [.int .i64 r1, .int .i64 0, .int .i64 0, .int .i64 0] rfl).put 1 (zD rfl) (.int .i64 r2) [.int .i64 r1, .int .i64 r2, .int .i64 0, .int .i64 0] rfl) 1 (zD rfl)
 have d2 := Arr.c (((B1_3.put 0 (zD rfl) (.int .i64 r1) [.int .i64 r1, .int .i64 0, .int .i64 0, .int .i64 0] rfl).put 1 (zD rfl) (.int .i64 r2) [.int .i64 r1, .int .i64 r2, .int .i64 0, .int .i64 0] rfl).put 2 (zD rfl) (.int .i64 r3) [.int .i64 r1, .int .i64 r2, .int .i64 r3, .int .i64 0] rfl) 2 (zD rfl)
 have d3 := Arr.c ((((B1_3.put 0 (zD rfl) (.int .i64 r1) [.int .i64 r1, .int .i64 0, .int .i64 0, .int .i64 0] rfl).put 1 (zD rfl) (.int .i64 r2) [.int .i64 r1, .int .i64 r2, .int .i64 0, .int .i64 0] rfl).put 2 (zD rfl) (.int .i64 r3) [.int .i64 r1, .int .i64 r2, .int .i64 r3, .int .i64 0] rfl).put 3 (zD rfl) (.int .i64 q.2.2.2) [.int .i64 r1, .int .i64 r2, .int .i64 r3, .int .i64 q.2.2.2] rfl) 3 (zD rfl)
 refine bodyPost_ret (v := .agg #[.int .i64 r1, .int .i64 r2, .int .i64 r3, .int .i64 q.2.2.2]) (by simp [results, Try.results12, go_sem, d0, d1, d2, d3]) rfl ?_
 have hs : qBackS q = (r1, r2, r3, q.2.2.2) := by unfold qBackS; simp only [E1.out, E2.out, E3.out]
 rw [hs]
 exact ⟨rfl, (bel_new (bel_new (bel_new (bel_new K3 _ _ (by omega) _) _ _ (by omega) _) _ _ (by omega) _) _ _ (by omega) _)⟩
theorem parted_any (q : V4) (w : World) :
  Calls Try.prog 15 #[.agg #[.int .i64 q.1, .int .i64 q.2.1, .int .i64 q.2.2.1, .int .i64 q.2.2.2]] w fun e w' => e = .returned (.tuple #[.agg #[.int .i64 q.1, .int .i64 q.2.1, .int .i64 q.2.2.1], .int .i64 q.2.2.2]) ∧ Below w.heap.size w w' := parted_any0 q w
theorem joined_any (p : V3) (k : Int) (w : World) :
  Calls Try.prog 30 #[.agg #[.int .i64 p.1, .int .i64 p.2.1, .int .i64 p.2.2], .int .i64 k] w fun e w' => e = .returned (.agg #[.int .i64 p.1, .int .i64 p.2.1, .int .i64 p.2.2, .int .i64 k]) ∧ Below w.heap.size w w' := joined_any0 p k w
end Go.Proofs.Ytooehgijllihdaa
namespace Go.Proofs.Ytooehgijllihdaa
open Go.RowKit
set_option maxRecDepth 100000
set_option maxHeartbeats 20000000
theorem qMul_any (b : Nat) (bad : Bool) (p : V4) (q : V4) (w : World) (hw : Fl b bad w) :
  Calls Try.prog 8 #[.pointer (some ⟨b, 0, none⟩), .agg #[.int .i64 p.1, .int .i64 p.2.1, .int .i64 p.2.2.1, .int .i64 p.2.2.2], .agg #[.int .i64 q.1, .int .i64 q.2.1, .int .i64 q.2.2.1, .int .i64 q.2.2.2]] w fun e w' => e = .returned (.agg #[.int .i64 ((qMulS bad p q).1.1), .int .i64 ((qMulS bad p q).1.2.1), .int .i64 ((qMulS bad p q).1.2.2.1), .int .i64 ((qMulS bad p q).1.2.2.2)]) ∧ Fl b (qMulS bad p q).2 w' ∧ Kept b w w' := by
 have hl := hw.lies
 go_enter Try.func8, Try.ntmps8
 go_wp2_with fail
 refine (parted_any p _).mono ?_
 rintro e w1 ⟨rfl, k1⟩
 have K1 : Kept b w w1 := Kept.trans ((((Kept.refl b w).al _).al _).al _) (Kept.of_below k1)
 have BF_1 := (((hw.alloc _).alloc _).alloc _).below k1
 have B0_1 := (((Arr_at _ w.heap.size [.int .i64 p.1, .int .i64 p.2.1, .int .i64 p.2.2.1, .int .i64 p.2.2.2] _ (by simp)).alloc _).alloc _).below k1
 have B1_1 := ((Arr_at _ (w.heap.size + 1) [.int .i64 q.1, .int .i64 q.2.1, .int .i64 q.2.2.1, .int .i64 q.2.2.2] _ (by simp)).alloc _).below k1
 have B2_1 := (Arr_at _ (w.heap.size + 1 + 1) [.int .i64 0, .int .i64 0, .int .i64 0, .int .i64 0] _ (by simp)).below k1
 have z1 := B2_1.lies
 clear k1
 have c2_B1_0 : w1.cell? ⟨w.heap.size + 1, 0, none⟩ = some (.int .i64 q.1) := B1_1.c 0 (zD rfl)
 have c2_B1_1 : w1.cell? ⟨w.heap.size + 1, 1, none⟩ = some (.int .i64 q.2.1) := B1_1.c 1 (zD rfl)
 have c2_B1_2 : w1.cell? ⟨w.heap.size + 1, 2, none⟩ = some (.int .i64 q.2.2.1) := B1_1.c 2 (zD rfl)
 have c2_B1_3 : w1.cell? ⟨w.heap.size + 1, 3, none⟩ = some (.int .i64 q.2.2.2) := B1_1.c 3 (zD rfl)
 have l2_B1 := B1_1.lies
 go_wp2_with fail
 refine (parted_any q _).mono ?_
 rintro e w2 ⟨rfl, k2⟩
 have K2 : Kept b w w2 := Kept.trans (K1.al _) (Kept.of_below k2)
 have BF_2 := (BF_1.alloc _).below k2
 have B0_2 := (B0_1.alloc _).below k2
 have B1_2 := (B1_1.alloc _).below k2
 have B2_2 := (B2_1.alloc _).below k2
 have B3_2 := (Arr_at _ w1.heap.size [.int .i64 p.1, .int .i64 p.2.1, .int .i64 p.2.2.1] _ (by simp)).below k2
 have z2 := B3_2.lies
 clear c2_B1_0 c2_B1_1 c2_B1_2 c2_B1_3 l2_B1 K1 BF_1 B0_1 B1_1 B2_1 k2
 go_wp2_with fail
 rename_i K0 aK0
 have cont1 : ∀ (W1 : World) (n13 n14 n15 n16 n17 n18 n19 n20 n21 n22 n23 n24 n25 n26 n27 n28 n29 n30 n31 n32 n33 n34 n35 n36 n37 n38 : Value) (x1_0 : Nat) (r3 : _) (r4 : _) (r5 : _) (r6 : _) (r7 : _) , Hid (vScaleS bad (p.1, p.2.1, p.2.2.1) q.2.2.2 = r3) → Hid (vScaleS r3.2 (q.1, q.2.1, q.2.2.1) p.2.2.2 = r4) → Hid (vAddS r4.2 r3.1 r4.1 = r5) → Hid (vCrossS r5.2 (q.1, q.2.1, q.2.2.1) (p.1, p.2.1, p.2.2.1) = r6) → Hid (vAddS r6.2 r5.1 r6.1 = r7) → Kept b w W1 → Fl b r7.2 W1 → Arr w.heap.size [.int .i64 p.1, .int .i64 p.2.1, .int .i64 p.2.2.1, .int .i64 p.2.2.2] W1 → Arr (w.heap.size + 1) [.int .i64 q.1, .int .i64 q.2.1, .int .i64 q.2.2.1, .int .i64 q.2.2.2] W1 → Arr (w.heap.size + 1 + 1) [.int .i64 0, .int .i64 0, .int .i64 0, .int .i64 0] W1 → Arr w1.heap.size [.int .i64 p.1, .int .i64 p.2.1, .int .i64 p.2.2.1] W1 → Arr w2.heap.size [.int .i64 q.1, .int .i64 q.2.1, .int .i64 q.2.2.1] W1 → Arr x1_0 [.int .i64 r7.1.1, .int .i64 r7.1.2.1, .int .i64 r7.1.2.2] W1 → w.heap.size ≤ x1_0 → b < x1_0 → w.heap.size < x1_0 → w.heap.size + 1 < x1_0 → w.heap.size + 1 + 1 < x1_0 → w1.heap.size < x1_0 → w2.heap.size < x1_0 → K0 { tmps := #[.pointer (some ⟨b, 0, none⟩), .agg #[.int .i64 p.1, .int .i64 p.2.1, .int .i64 p.2.2.1, .int .i64 p.2.2.2], .agg #[.int .i64 q.1, .int .i64 q.2.1, .int .i64 q.2.2.1, .int .i64 q.2.2.2], undef, .pointer (some ⟨w.heap.size, 0, none⟩), .pointer (some ⟨w.heap.size + 1, 0, none⟩), .pointer (some ⟨w.heap.size + 1 + 1, 0, none⟩), .pointer (some ⟨w1.heap.size, 0, none⟩), .int .i64 p.2.2.2, .pointer (some ⟨w2.heap.size, 0, none⟩), .int .i64 q.2.2.2, .pointer (some ⟨x1_0, 0, none⟩), undef, n13, n14, n15, n16, n17, n18, n19, n20, n21, n22, n23, n24, n25, n26, n27, n28, n29, n30, n31, n32, n33, n34, n35, n36, n37, n38, undef, undef, undef, undef, undef, undef, undef, undef, undef, undef, undef, undef, undef, undef, undef], defers := [] } W1 := by
  intro W1 n13 n14 n15 n16 n17 n18 n19 n20 n21 n22 n23 n24 n25 n26 n27 n28 n29 n30 n31 n32 n33 n34 n35 n36 n37 n38 x1_0 r3 r4 r5 r6 r7 E3 E4 E5 E6 E7 KC1 BF_c1 B0_c1 B1_c1 B2_c1 B3_c1 B4_c1 B5_c1 s1_0 s1_1 s1_2 s1_3 s1_4 s1_5 s1_6
  apply aK0
  go_wp2_with fail
  refine wp_region_held_drew (S := fun w' => Arr w1.heap.size [.int .i64 p.1, .int .i64 p.2.1, .int .i64 p.2.2.1] w' ∧ Arr w2.heap.size [.int .i64 q.1, .int .i64 q.2.1, .int .i64 q.2.2.1] w') (by kernel_rfl) ⟨B3_c1.drew, B4_c1.drew⟩ (fun zH => ?_)
  refine zT 0 rfl (by kernel_rfl) (fun _ _ _ => id) rfl (fun _ _ => by go_simp <;> with_reducible rfl) zH ?_
  simp only [Act.put, zA, zB, zC]
  refine zT 1 rfl (by kernel_rfl) (fun _ _ _ => id) rfl (fun _ _ => by go_simp <;> with_reducible rfl) zH ?_
  simp only [Act.put, zA, zB, zC]
  refine zT 2 rfl (by kernel_rfl) (fun _ _ _ => id) rfl (fun _ _ => by go_simp <;> with_reducible rfl) zH ?_
  simp only [Act.put, zA, zB, zC]
  refine zT 3 rfl (by kernel_rfl) (fun _ _ _ => id) rfl (fun _ _ => by go_simp <;> with_reducible rfl) zH ?_
  simp only [Act.put, zA, zB, zC]
  refine zT 5 rfl (by kernel_rfl) (fun _ _ _ => id) rfl (fun _ _ => by go_simp <;> with_reducible rfl) zH ?_
  simp only [Act.put, zA, zB, zC]
  refine zT 6 rfl (by kernel_rfl) (fun _ _ _ => id) rfl (fun wx hS => by have hc0 : wx.cell? ⟨w1.heap.size, 0, none⟩ = some (.int .i64 p.1) := hS.1.c 0 (zD rfl); have hc1 : wx.cell? ⟨w1.heap.size, 1, none⟩ = some (.int .i64 p.2.1) := hS.1.c 1 (zD rfl); have hc2 : wx.cell? ⟨w1.heap.size, 2, none⟩ = some (.int .i64 p.2.2.1) := hS.1.c 2 (zD rfl); go_simp <;> with_reducible rfl) zH ?_
  simp only [Act.put, zA, zB, zC]
  refine zT 7 rfl (by kernel_rfl) (fun _ _ _ => id) rfl (fun wx hS => by have hc0 : wx.cell? ⟨w2.heap.size, 0, none⟩ = some (.int .i64 q.1) := hS.2.c 0 (zD rfl); have hc1 : wx.cell? ⟨w2.heap.size, 1, none⟩ = some (.int .i64 q.2.1) := hS.2.c 1 (zD rfl); have hc2 : wx.cell? ⟨w2.heap.size, 2, none⟩ = some (.int .i64 q.2.2.1) := hS.2.c 2 (zD rfl); go_simp <;> with_reducible rfl) zH ?_
  simp only [Act.put, zA, zB, zC]
  refine zK 4 (by kernel_rfl) rfl (fun K hK => ?_)
  go_simp
  refine (Mul_any b r7.2 p.2.2.2 q.2.2.2 _ BF_c1.drew).mono ?_
  rintro e w8 ⟨rfl, f8, k8⟩
  generalize e8 : mulS r7.2 p.2.2.2 q.2.2.2 = r8 at f8 ⊢
  have E8 : Hid _ := e8
  clear e8
  have K8 : Kept b w w8 := Kept.trans KC1.drew k8
  have B0_8 := B0_c1.drew.kept k8 (by omega)
  have B1_8 := B1_c1.drew.kept k8 (by omega)
  have B2_8 := B2_c1.drew.kept k8 (by omega)
  have B3_8 := B3_c1.drew.kept k8 (by omega)
  have B4_8 := B4_c1.drew.kept k8 (by omega)
  have B5_8 := B5_c1.drew.kept k8 (by omega)
  have z8 := B5_8.lies
  clear zH
  refine hK.out _ _ ⟨B3_8, B4_8⟩ (fun zH => ?_)
  clear hK K BF_c1 B0_c1 B1_c1 B2_c1 B3_c1 B4_c1 B5_c1 k8
  refine zK 8 (by kernel_rfl) rfl (fun K hK => ?_)
  go_simp
  refine (vDot_any b r8.2 (p.1, p.2.1, p.2.2.1) (q.1, q.2.1, q.2.2.1) _ f8).mono ?_
  rintro e w9 ⟨rfl, f9, k9⟩
  generalize e9 : vDotS r8.2 (p.1, p.2.1, p.2.2.1) (q.1, q.2.1, q.2.2.1) = r9 at f9 ⊢
  have E9 : Hid _ := e9
  clear e9
  have K9 := Kept.trans K8 k9
  have B0_9 := B0_8.kept k9 (by omega)
  have B1_9 := B1_8.kept k9 (by omega)
  have B2_9 := B2_8.kept k9 (by omega)
  have B3_9 := B3_8.kept k9 (by omega)
  have B4_9 := B4_8.kept k9 (by omega)
  have B5_9 := B5_8.kept k9 (by omega)
  have z9 := B5_9.lies
  clear zH
  refine hK.out _ _ ⟨B3_9, B4_9⟩ (fun zH => ?_)
  clear hK K K8 f8 B0_8 B1_8 B2_8 B3_8 B4_8 B5_8 k9
  refine zK 9 (by kernel_rfl) rfl (fun K hK => ?_)
  go_simp
  refine (Sub_any b r9.2 r8.1 r9.1 _ f9).mono ?_
  rintro e w10 ⟨rfl, f10, k10⟩
  generalize e10 : subS r9.2 r8.1 r9.1 = r10 at f10 ⊢
  have E10 : Hid _ := e10
  clear e10
  have K10 := Kept.trans K9 k10
  have B0_10 := B0_9.kept k10 (by omega)
  have B1_10 := B1_9.kept k10 (by omega)
  have B2_10 := B2_9.kept k10 (by omega)
  have B3_10 := B3_9.kept k10 (by omega)
  have B4_10 := B4_9.kept k10 (by omega)
  have B5_10 := B5_9.kept k10 (by omega)
  have z10 := B5_10.lies
  clear zH
  refine hK.out _ _ ⟨B3_10, B4_10⟩ (fun zH => ?_)
  clear hK K K9 f9 B0_9 B1_9 B2_9 B3_9 B4_9 B5_9 k10
  refine zT 10 rfl (by kernel_rfl) (fun _ _ _ => id) rfl (fun _ _ => by go_simp <;> with_reducible rfl) zH ?_
  simp only [Act.put, zA, zB, zC]
  refine wpAnyH_done (by kernel_rfl) ?_ _
  clear zH
  have c5_B5_0 : w10.cell? ⟨x1_0, 0, none⟩ = some (.int .i64 r7.1.1) := B5_10.c 0 (zD rfl)
  have c5_B5_1 : w10.cell? ⟨x1_0, 1, none⟩ = some (.int .i64 r7.1.2.1) := B5_10.c 1 (zD rfl)
  have c5_B5_2 : w10.cell? ⟨x1_0, 2, none⟩ = some (.int .i64 r7.1.2.2) := B5_10.c 2 (zD rfl)
  go_wp2_with fail
  refine (joined_any r7.1 r10.1 _).mono ?_
  rintro e w11 ⟨rfl, k11⟩
  have K11 : Kept b w w11 := Kept.trans K10 (Kept.of_below k11)
  have BF_11 := f10.below k11
  have B0_11 := B0_10.below k11
  have B1_11 := B1_10.below k11
  have B2_11 := B2_10.below k11
  have B3_11 := B3_10.below k11
  have B4_11 := B4_10.below k11
  have B5_11 := B5_10.below k11
  have z11 := B5_11.lies
  clear c5_B5_0 c5_B5_1 c5_B5_2 K10 f10 B0_10 B1_10 B2_10 B3_10 B4_10 B5_10 k11
  go_wp2_with fail
  refine (sound4_any b r10.2 (r7.1.1, r7.1.2.1, r7.1.2.2, r10.1) _ BF_11).mono ?_
  rintro e w12 ⟨rfl, f12, k12⟩
  generalize e12 : sound4S r10.2 (r7.1.1, r7.1.2.1, r7.1.2.2, r10.1) = r12 at f12 ⊢
  have E12 : Hid _ := e12
  clear e12
  have K12 := Kept.trans K11 k12
  have B0_12 := B0_11.kept k12 (by omega)
  have B1_12 := B1_11.kept k12 (by omega)
  have B2_12 := B2_11.kept k12 (by omega)
  have B3_12 := B3_11.kept k12 (by omega)
  have B4_12 := B4_11.kept k12 (by omega)
  have B5_12 := B5_11.kept k12 (by omega)
  have z12 := B5_12.lies
  clear K11 BF_11 B0_11 B1_11 B2_11 B3_11 B4_11 B5_11 k12
  have c7_B2_0 : w12.cell? ⟨w.heap.size + 1 + 1, 0, none⟩ = some (.int .i64 0) := B2_12.c 0 (zD rfl)
  have c7_B2_1 : w12.cell? ⟨w.heap.size + 1 + 1, 1, none⟩ = some (.int .i64 0) := B2_12.c 1 (zD rfl)
  have c7_B2_2 : w12.cell? ⟨w.heap.size + 1 + 1, 2, none⟩ = some (.int .i64 0) := B2_12.c 2 (zD rfl)
  have c7_B2_3 : w12.cell? ⟨w.heap.size + 1 + 1, 3, none⟩ = some (.int .i64 0) := B2_12.c 3 (zD rfl)
  have g7_B2_0 := B2_12.f 0 (zD rfl)
  have g7_B2_1 := B2_12.f 1 (zD rfl)
  have g7_B2_2 := B2_12.f 2 (zD rfl)
  have g7_B2_3 := B2_12.f 3 (zD rfl)
  go_wp2
  clear c7_B2_0 c7_B2_1 c7_B2_2 c7_B2_3 g7_B2_0 g7_B2_1 g7_B2_2 g7_B2_3
  have d0 := Arr.c (B2_12.put 0 (zD rfl) (.int .i64 r12.1.1) [.int .i64 r12.1.1, .int .i64 0, .int .i64 0, .int .i64 0] rfl) 0 (zD rfl)
  have d1 := Arr.c ((B2_12.put 0 (zD rfl) (.int .i64 r12.1.1) [.int .i64 r12.1.1, .int .i64 0, .int .i64 0, .int .i64 0] rfl).put 1 (zD rfl) (.int .i64 r12.1.2.1) [.int .i64 r12.1.1, .int .i64 r12.1.2.1, .int .i64 0, .int .i64 0] rfl) 1 (zD rfl)
  have d2 := Arr.c (((B2_12.put 0 (zD rfl) (.int .i64 r12.1.1) [.int .i64 r12.1.1, .int .i64 0, .int .i64 0, .int .i64 0] rfl).put 1 (zD rfl) (.int .i64 r12.1.2.1) [.int .i64 r12.1.1, .int .i64 r12.1.2.1, .int .i64 0, .int .i64 0] rfl).put 2 (zD rfl) (.int .i64 r12.1.2.2.1) [.int .i64 r12.1.1, .int .i64 r12.1.2.1, .int .i64 r12.1.2.2.1, .int .i64 0] rfl) 2 (zD rfl)
  have d3 := Arr.c ((((B2_12.put 0 (zD rfl) (.int .i64 r12.1.1) [.int .i64 r12.1.1, .int .i64 0, .int .i64 0, .int .i64 0] rfl).put 1 (zD rfl) (.int .i64 r12.1.2.1) [.int .i64 r12.1.1, .int .i64 r12.1.2.1, .int .i64 0, .int .i64 0] rfl).put 2 (zD rfl) (.int .i64 r12.1.2.2.1) [.int .i64 r12.1.1, .int .i64 r12.1.2.1, .int .i64 r12.1.2.2.1, .int .i64 0] rfl).put 3 (zD rfl) (.int .i64 r12.1.2.2.2) [.int .i64 r12.1.1, .int .i64 r12.1.2.1, .int .i64 r12.1.2.2.1, .int .i64 r12.1.2.2.2] rfl) 3 (zD rfl)
  refine bodyPost_ret (v := .agg #[.int .i64 r12.1.1, .int .i64 r12.1.2.1, .int .i64 r12.1.2.2.1, .int .i64 r12.1.2.2.2]) (by simp [results, Try.results8, go_sem, d0, d1, d2, d3]) rfl ?_
  have hs : qMulS bad p q = (r12.1, r12.2) := by unfold qMulS; simp only [E3.out, E4.out, E5.out, E6.out, E7.out, E8.out, E9.out, E10.out, E12.out]
  rw [hs]
  exact ⟨rfl, ((((f12.new _ _ (by omega) _).new _ _ (by omega) _).new _ _ (by omega) _).new _ _ (by omega) _), ((((K12.new _ _ (by omega) _).new _ _ (by omega) _).new _ _ (by omega) _).new _ _ (by omega) _)⟩
 refine wp_region_held_drew (S := fun w' => Arr w1.heap.size [.int .i64 p.1, .int .i64 p.2.1, .int .i64 p.2.2.1] w' ∧ Arr w2.heap.size [.int .i64 q.1, .int .i64 q.2.1, .int .i64 q.2.2.1] w') (by kernel_rfl) ⟨(B3_2.alloc _).drew, (Arr_at _ _ [.int .i64 q.1, .int .i64 q.2.1, .int .i64 q.2.2.1] _ (by simp)).drew⟩ (fun zH => ?_)
 refine zT 0 rfl (by kernel_rfl) (fun _ _ _ => id) rfl (fun _ _ => by go_simp <;> with_reducible rfl) zH ?_
 simp only [Act.put, zA, zB, zC]
 refine zT 1 rfl (by kernel_rfl) (fun _ _ _ => id) rfl (fun _ _ => by go_simp <;> with_reducible rfl) zH ?_
 simp only [Act.put, zA, zB, zC]
 refine zT 2 rfl (by kernel_rfl) (fun _ _ _ => id) rfl (fun _ _ => by go_simp <;> with_reducible rfl) zH ?_
 simp only [Act.put, zA, zB, zC]
 refine zT 3 rfl (by kernel_rfl) (fun _ _ _ => id) rfl (fun wx hS => by have hc0 : wx.cell? ⟨w1.heap.size, 0, none⟩ = some (.int .i64 p.1) := hS.1.c 0 (zD rfl); have hc1 : wx.cell? ⟨w1.heap.size, 1, none⟩ = some (.int .i64 p.2.1) := hS.1.c 1 (zD rfl); have hc2 : wx.cell? ⟨w1.heap.size, 2, none⟩ = some (.int .i64 p.2.2.1) := hS.1.c 2 (zD rfl); go_simp <;> with_reducible rfl) zH ?_
 simp only [Act.put, zA, zB, zC]
 refine zT 4 rfl (by kernel_rfl) (fun _ _ _ => id) rfl (fun _ _ => by go_simp <;> with_reducible rfl) zH ?_
 simp only [Act.put, zA, zB, zC]
 refine zT 6 rfl (by kernel_rfl) (fun _ _ _ => id) rfl (fun _ _ => by go_simp <;> with_reducible rfl) zH ?_
 simp only [Act.put, zA, zB, zC]
 refine zT 7 rfl (by kernel_rfl) (fun _ _ _ => id) rfl (fun wx hS => by have hc0 : wx.cell? ⟨w2.heap.size, 0, none⟩ = some (.int .i64 q.1) := hS.2.c 0 (zD rfl); have hc1 : wx.cell? ⟨w2.heap.size, 1, none⟩ = some (.int .i64 q.2.1) := hS.2.c 1 (zD rfl); have hc2 : wx.cell? ⟨w2.heap.size, 2, none⟩ = some (.int .i64 q.2.2.1) := hS.2.c 2 (zD rfl); go_simp <;> with_reducible rfl) zH ?_
 simp only [Act.put, zA, zB, zC]
 refine zT 8 rfl (by kernel_rfl) (fun _ _ _ => id) rfl (fun _ _ => by go_simp <;> with_reducible rfl) zH ?_
 simp only [Act.put, zA, zB, zC]
 refine zT 11 rfl (by kernel_rfl) (fun _ _ _ => id) rfl (fun _ _ => by go_simp <;> with_reducible rfl) zH ?_
 simp only [Act.put, zA, zB, zC]
 refine zT 12 rfl (by kernel_rfl) (fun _ _ _ => id) rfl (fun wx hS => by have hc0 : wx.cell? ⟨w2.heap.size, 0, none⟩ = some (.int .i64 q.1) := hS.2.c 0 (zD rfl); have hc1 : wx.cell? ⟨w2.heap.size, 1, none⟩ = some (.int .i64 q.2.1) := hS.2.c 1 (zD rfl); have hc2 : wx.cell? ⟨w2.heap.size, 2, none⟩ = some (.int .i64 q.2.2.1) := hS.2.c 2 (zD rfl); go_simp <;> with_reducible rfl) zH ?_
 simp only [Act.put, zA, zB, zC]
 refine zT 13 rfl (by kernel_rfl) (fun _ _ _ => id) rfl (fun wx hS => by have hc0 : wx.cell? ⟨w1.heap.size, 0, none⟩ = some (.int .i64 p.1) := hS.1.c 0 (zD rfl); have hc1 : wx.cell? ⟨w1.heap.size, 1, none⟩ = some (.int .i64 p.2.1) := hS.1.c 1 (zD rfl); have hc2 : wx.cell? ⟨w1.heap.size, 2, none⟩ = some (.int .i64 p.2.2.1) := hS.1.c 2 (zD rfl); go_simp <;> with_reducible rfl) zH ?_
 simp only [Act.put, zA, zB, zC]
 refine call_at2 (i0 := 5) (i1 := 16) (by kernel_rfl) rfl rfl (fun K hK => ?_) (fun K hK => ?_)
 ·go_simp
  refine (vScale_any b bad (p.1, p.2.1, p.2.2.1) q.2.2.2 _ (BF_2.alloc _).drew).mono ?_
  rintro e w3 ⟨rfl, f3, k3⟩
  generalize e3 : vScaleS bad (p.1, p.2.1, p.2.2.1) q.2.2.2 = r3 at f3 ⊢
  have E3 : Hid _ := e3
  clear e3
  have K3 : Kept b w w3 := Kept.trans (K2.al _).drew k3
  have B0_3 := (B0_2.alloc _).drew.kept k3 (by omega)
  have B1_3 := (B1_2.alloc _).drew.kept k3 (by omega)
  have B2_3 := (B2_2.alloc _).drew.kept k3 (by omega)
  have B3_3 := (B3_2.alloc _).drew.kept k3 (by omega)
  have B4_3 : Arr w2.heap.size [.int .i64 q.1, .int .i64 q.2.1, .int .i64 q.2.2.1] w3 := (Arr_at _ _ [.int .i64 q.1, .int .i64 q.2.1, .int .i64 q.2.2.1] _ (by simp)).drew.kept k3 (by omega)
  have z3 := B4_3.lies
  clear zH
  refine hK.out _ _ ⟨B3_3, B4_3⟩ (fun zH => ?_)
  clear hK K K2 BF_2 B0_2 B1_2 B2_2 B3_2 k3
  refine call_at2 (i0 := 9) (i1 := 16) (by kernel_rfl) rfl rfl (fun K hK => ?_) (fun K hK => ?_)
  ·go_simp
   refine (vScale_any b r3.2 (q.1, q.2.1, q.2.2.1) p.2.2.2 _ f3).mono ?_
   rintro e w4 ⟨rfl, f4, k4⟩
   generalize e4 : vScaleS r3.2 (q.1, q.2.1, q.2.2.1) p.2.2.2 = r4 at f4 ⊢
   have E4 : Hid _ := e4
   clear e4
   have K4 := Kept.trans K3 k4
   have B0_4 := B0_3.kept k4 (by omega)
   have B1_4 := B1_3.kept k4 (by omega)
   have B2_4 := B2_3.kept k4 (by omega)
   have B3_4 := B3_3.kept k4 (by omega)
   have B4_4 := B4_3.kept k4 (by omega)
   have z4 := B4_4.lies
   clear zH
   refine hK.out _ _ ⟨B3_4, B4_4⟩ (fun zH => ?_)
   clear hK K K3 f3 B0_3 B1_3 B2_3 B3_3 B4_3 k4
   refine call_at2 (i0 := 10) (i1 := 16) (by kernel_rfl) rfl rfl (fun K hK => ?_) (fun K hK => ?_)
   ·go_simp
    refine (vAdd_any b r4.2 r3.1 r4.1 _ f4).mono ?_
    rintro e w5 ⟨rfl, f5, k5⟩
    generalize e5 : vAddS r4.2 r3.1 r4.1 = r5 at f5 ⊢
    have E5 : Hid _ := e5
    clear e5
    have K5 := Kept.trans K4 k5
    have B0_5 := B0_4.kept k5 (by omega)
    have B1_5 := B1_4.kept k5 (by omega)
    have B2_5 := B2_4.kept k5 (by omega)
    have B3_5 := B3_4.kept k5 (by omega)
    have B4_5 := B4_4.kept k5 (by omega)
    have z5 := B4_5.lies
    clear zH
    refine hK.out _ _ ⟨B3_5, B4_5⟩ (fun zH => ?_)
    clear hK K K4 f4 B0_4 B1_4 B2_4 B3_4 B4_4 k5
    refine call_at2 (i0 := 14) (i1 := 16) (by kernel_rfl) rfl rfl (fun K hK => ?_) (fun K hK => ?_)
    ·go_simp
     refine (vCross_any b r5.2 (q.1, q.2.1, q.2.2.1) (p.1, p.2.1, p.2.2.1) _ f5).mono ?_
     rintro e w6 ⟨rfl, f6, k6⟩
     generalize e6 : vCrossS r5.2 (q.1, q.2.1, q.2.2.1) (p.1, p.2.1, p.2.2.1) = r6 at f6 ⊢
     have E6 : Hid _ := e6
     clear e6
     have K6 := Kept.trans K5 k6
     have B0_6 := B0_5.kept k6 (by omega)
     have B1_6 := B1_5.kept k6 (by omega)
     have B2_6 := B2_5.kept k6 (by omega)
     have B3_6 := B3_5.kept k6 (by omega)
     have B4_6 := B4_5.kept k6 (by omega)
     have z6 := B4_6.lies
     clear zH
     refine hK.out _ _ ⟨B3_6, B4_6⟩ (fun zH => ?_)
     clear hK K K5 f5 B0_5 B1_5 B2_5 B3_5 B4_5 k6
     refine call_at2 (i0 := 15) (i1 := 16) (by kernel_rfl) rfl rfl (fun K hK => ?_) (fun K hK => ?_)
     ·go_simp
      refine (vAdd_any b r6.2 r5.1 r6.1 _ f6).mono ?_
      rintro e w7 ⟨rfl, f7, k7⟩
      generalize e7 : vAddS r6.2 r5.1 r6.1 = r7 at f7 ⊢
      have E7 : Hid _ := e7
      clear e7
      have K7 := Kept.trans K6 k7
      have B0_7 := B0_6.kept k7 (by omega)
      have B1_7 := B1_6.kept k7 (by omega)
      have B2_7 := B2_6.kept k7 (by omega)
      have B3_7 := B3_6.kept k7 (by omega)
      have B4_7 := B4_6.kept k7 (by omega)
      have z7 := B4_7.lies
      clear zH
      refine hK.out _ _ ⟨B3_7, B4_7⟩ (fun zH => ?_)
      clear hK K K6 f6 B0_6 B1_6 B2_6 B3_6 B4_6 k7
      refine zK 16 (by kernel_rfl) rfl (fun K hK => ?_)
      go_simp
      clear zH
      refine hK.out _ _ ⟨(B3_7.alloc _), (B4_7.alloc _)⟩ (fun zH => ?_)
      clear hK K
      refine zK 17 (by kernel_rfl) rfl (fun K hK => ?_)
      go_simp
      clear zH
      refine hK.out _ _ ⟨(B3_7.alloc _), (B4_7.alloc _)⟩ (fun zH => ?_)
      clear hK K
      refine wpAnyH_done (by kernel_rfl) ?_ _
      clear zH
      exact cont1 _ _ _ _ _ _ _ _ _ _ _ _ _ _ _ _ _ _ _ _ _ _ _ _ _ _ _ w7.heap.size r3 r4 r5 r6 r7 E3 E4 E5 E6 E7 (K7.al _) (f7.alloc _) (B0_7.alloc _) (B1_7.alloc _) (B2_7.alloc _) (B3_7.alloc _) (B4_7.alloc _) (Arr_at _ _ [.int .i64 r7.1.1, .int .i64 r7.1.2.1, .int .i64 r7.1.2.2] _ (by simp)) (by omega) (by omega) (by omega) (by omega) (by omega) (by omega) (by omega)
     ·go_simp
      clear zH
      refine hK.out _ _ ⟨(B3_6.alloc _), (B4_6.alloc _)⟩ (fun zH => ?_)
      clear hK K
      refine zK 15 (by kernel_rfl) rfl (fun K hK => ?_)
      go_simp
      refine (vAdd_any b r6.2 r5.1 r6.1 _ (f6.alloc _)).mono ?_
      rintro e w7 ⟨rfl, f7, k7⟩
      generalize e7 : vAddS r6.2 r5.1 r6.1 = r7 at f7 ⊢
      have E7 : Hid _ := e7
      clear e7
      have K7 : Kept b w w7 := Kept.trans (K6.al _) k7
      have B0_7 := (B0_6.alloc _).kept k7 (by omega)
      have B1_7 := (B1_6.alloc _).kept k7 (by omega)
      have B2_7 := (B2_6.alloc _).kept k7 (by omega)
      have B3_7 := (B3_6.alloc _).kept k7 (by omega)
      have B4_7 := (B4_6.alloc _).kept k7 (by omega)
      have B5_7 : Arr w6.heap.size [.int .i64 0, .int .i64 0, .int .i64 0] w7 := (Arr_at _ _ [.int .i64 0, .int .i64 0, .int .i64 0] _ (by simp)).kept k7 (by omega)
      have z7 := B5_7.lies
      clear zH
      refine hK.out _ _ ⟨B3_7, B4_7⟩ (fun zH => ?_)
      clear hK K K6 f6 B0_6 B1_6 B2_6 B3_6 B4_6 k7
      refine zK 17 (by kernel_rfl) rfl (fun K hK => ?_)
      have c5_B5_0 : w7.cell? ⟨w6.heap.size, 0, none⟩ = some (.int .i64 0) := B5_7.c 0 (zD rfl)
      have c5_B5_1 : w7.cell? ⟨w6.heap.size, 1, none⟩ = some (.int .i64 0) := B5_7.c 1 (zD rfl)
      have c5_B5_2 : w7.cell? ⟨w6.heap.size, 2, none⟩ = some (.int .i64 0) := B5_7.c 2 (zD rfl)
      have g5_B5_0 := B5_7.f 0 (zD rfl)
      have g5_B5_1 := B5_7.f 1 (zD rfl)
      have g5_B5_2 := B5_7.f 2 (zD rfl)
      go_simp
      clear zH
      refine hK.out _ _ ⟨(((B3_7.new _ _ (by omega) _).new _ _ (by omega) _).new _ _ (by omega) _), (((B4_7.new _ _ (by omega) _).new _ _ (by omega) _).new _ _ (by omega) _)⟩ (fun zH => ?_)
      clear hK K c5_B5_0 c5_B5_1 c5_B5_2 g5_B5_0 g5_B5_1 g5_B5_2
      refine wpAnyH_done (by kernel_rfl) ?_ _
      clear zH
      exact cont1 _ _ _ _ _ _ _ _ _ _ _ _ _ _ _ _ _ _ _ _ _ _ _ _ _ _ _ w6.heap.size r3 r4 r5 r6 r7 E3 E4 E5 E6 E7 (((K7.new _ _ (by omega) _).new _ _ (by omega) _).new _ _ (by omega) _) (((f7.new _ _ (by omega) _).new _ _ (by omega) _).new _ _ (by omega) _) (((B0_7.new _ _ (by omega) _).new _ _ (by omega) _).new _ _ (by omega) _) (((B1_7.new _ _ (by omega) _).new _ _ (by omega) _).new _ _ (by omega) _) (((B2_7.new _ _ (by omega) _).new _ _ (by omega) _).new _ _ (by omega) _) (((B3_7.new _ _ (by omega) _).new _ _ (by omega) _).new _ _ (by omega) _) (((B4_7.new _ _ (by omega) _).new _ _ (by omega) _).new _ _ (by omega) _) (((B5_7.put 0 (zD rfl) (.int .i64 r7.1.1) [.int .i64 r7.1.1, .int .i64 0, .int .i64 0] rfl).put 1 (zD rfl) (.int .i64 r7.1.2.1) [.int .i64 r7.1.1, .int .i64 r7.1.2.1, .int .i64 0] rfl).put 2 (zD rfl) (.int .i64 r7.1.2.2) [.int .i64 r7.1.1, .int .i64 r7.1.2.1, .int .i64 r7.1.2.2] rfl) (by omega) (by omega) (by omega) (by omega) (by omega) (by omega) (by omega)
    ·go_simp
     clear zH
     refine hK.out _ _ ⟨(B3_5.alloc _), (B4_5.alloc _)⟩ (fun zH => ?_)
     clear hK K
     refine zK 14 (by kernel_rfl) rfl (fun K hK => ?_)
     go_simp
     refine (vCross_any b r5.2 (q.1, q.2.1, q.2.2.1) (p.1, p.2.1, p.2.2.1) _ (f5.alloc _)).mono ?_
     rintro e w6 ⟨rfl, f6, k6⟩
     generalize e6 : vCrossS r5.2 (q.1, q.2.1, q.2.2.1) (p.1, p.2.1, p.2.2.1) = r6 at f6 ⊢
     have E6 : Hid _ := e6
     clear e6
     have K6 : Kept b w w6 := Kept.trans (K5.al _) k6
     have B0_6 := (B0_5.alloc _).kept k6 (by omega)
     have B1_6 := (B1_5.alloc _).kept k6 (by omega)
     have B2_6 := (B2_5.alloc _).kept k6 (by omega)
     have B3_6 := (B3_5.alloc _).kept k6 (by omega)
     have B4_6 := (B4_5.alloc _).kept k6 (by omega)
     have B5_6 : Arr w5.heap.size [.int .i64 0, .int .i64 0, .int .i64 0] w6 := (Arr_at _ _ [.int .i64 0, .int .i64 0, .int .i64 0] _ (by simp)).kept k6 (by omega)
     have z6 := B5_6.lies
     clear zH
     refine hK.out _ _ ⟨B3_6, B4_6⟩ (fun zH => ?_)
     clear hK K K5 f5 B0_5 B1_5 B2_5 B3_5 B4_5 k6
     refine zK 15 (by kernel_rfl) rfl (fun K hK => ?_)
     go_simp
     refine (vAdd_any b r6.2 r5.1 r6.1 _ f6).mono ?_
     rintro e w7 ⟨rfl, f7, k7⟩
     generalize e7 : vAddS r6.2 r5.1 r6.1 = r7 at f7 ⊢
     have E7 : Hid _ := e7
     clear e7
     have K7 := Kept.trans K6 k7
     have B0_7 := B0_6.kept k7 (by omega)
     have B1_7 := B1_6.kept k7 (by omega)
     have B2_7 := B2_6.kept k7 (by omega)
     have B3_7 := B3_6.kept k7 (by omega)
     have B4_7 := B4_6.kept k7 (by omega)
     have B5_7 := B5_6.kept k7 (by omega)
     have z7 := B5_7.lies
     clear zH
     refine hK.out _ _ ⟨B3_7, B4_7⟩ (fun zH => ?_)
     clear hK K K6 f6 B0_6 B1_6 B2_6 B3_6 B4_6 B5_6 k7
     refine zK 17 (by kernel_rfl) rfl (fun K hK => ?_)
     have c5_B5_0 : w7.cell? ⟨w5.heap.size, 0, none⟩ = some (.int .i64 0) := B5_7.c 0 (zD rfl)
     have c5_B5_1 : w7.cell? ⟨w5.heap.size, 1, none⟩ = some (.int .i64 0) := B5_7.c 1 (zD rfl)
     have c5_B5_2 : w7.cell? ⟨w5.heap.size, 2, none⟩ = some (.int .i64 0) := B5_7.c 2 (zD rfl)
     have g5_B5_0 := B5_7.f 0 (zD rfl)
     have g5_B5_1 := B5_7.f 1 (zD rfl)
     have g5_B5_2 := B5_7.f 2 (zD rfl)
     go_simp
     clear zH
     refine hK.out _ _ ⟨(((B3_7.new _ _ (by omega) _).new _ _ (by omega) _).new _ _ (by omega) _), (((B4_7.new _ _ (by omega) _).new _ _ (by omega) _).new _ _ (by omega) _)⟩ (fun zH => ?_)
     clear hK K c5_B5_0 c5_B5_1 c5_B5_2 g5_B5_0 g5_B5_1 g5_B5_2
     refine wpAnyH_done (by kernel_rfl) ?_ _
     clear zH
     exact cont1 _ _ _ _ _ _ _ _ _ _ _ _ _ _ _ _ _ _ _ _ _ _ _ _ _ _ _ w5.heap.size r3 r4 r5 r6 r7 E3 E4 E5 E6 E7 (((K7.new _ _ (by omega) _).new _ _ (by omega) _).new _ _ (by omega) _) (((f7.new _ _ (by omega) _).new _ _ (by omega) _).new _ _ (by omega) _) (((B0_7.new _ _ (by omega) _).new _ _ (by omega) _).new _ _ (by omega) _) (((B1_7.new _ _ (by omega) _).new _ _ (by omega) _).new _ _ (by omega) _) (((B2_7.new _ _ (by omega) _).new _ _ (by omega) _).new _ _ (by omega) _) (((B3_7.new _ _ (by omega) _).new _ _ (by omega) _).new _ _ (by omega) _) (((B4_7.new _ _ (by omega) _).new _ _ (by omega) _).new _ _ (by omega) _) (((B5_7.put 0 (zD rfl) (.int .i64 r7.1.1) [.int .i64 r7.1.1, .int .i64 0, .int .i64 0] rfl).put 1 (zD rfl) (.int .i64 r7.1.2.1) [.int .i64 r7.1.1, .int .i64 r7.1.2.1, .int .i64 0] rfl).put 2 (zD rfl) (.int .i64 r7.1.2.2) [.int .i64 r7.1.1, .int .i64 r7.1.2.1, .int .i64 r7.1.2.2] rfl) (by omega) (by omega) (by omega) (by omega) (by omega) (by omega) (by omega)
   ·go_simp
    clear zH
    refine hK.out _ _ ⟨(B3_4.alloc _), (B4_4.alloc _)⟩ (fun zH => ?_)
    clear hK K
    refine zK 10 (by kernel_rfl) rfl (fun K hK => ?_)
    go_simp
    refine (vAdd_any b r4.2 r3.1 r4.1 _ (f4.alloc _)).mono ?_
    rintro e w5 ⟨rfl, f5, k5⟩
    generalize e5 : vAddS r4.2 r3.1 r4.1 = r5 at f5 ⊢
    have E5 : Hid _ := e5
    clear e5
    have K5 : Kept b w w5 := Kept.trans (K4.al _) k5
    have B0_5 := (B0_4.alloc _).kept k5 (by omega)
    have B1_5 := (B1_4.alloc _).kept k5 (by omega)
    have B2_5 := (B2_4.alloc _).kept k5 (by omega)
    have B3_5 := (B3_4.alloc _).kept k5 (by omega)
    have B4_5 := (B4_4.alloc _).kept k5 (by omega)
    have B5_5 : Arr w4.heap.size [.int .i64 0, .int .i64 0, .int .i64 0] w5 := (Arr_at _ _ [.int .i64 0, .int .i64 0, .int .i64 0] _ (by simp)).kept k5 (by omega)
    have z5 := B5_5.lies
    clear zH
    refine hK.out _ _ ⟨B3_5, B4_5⟩ (fun zH => ?_)
    clear hK K K4 f4 B0_4 B1_4 B2_4 B3_4 B4_4 k5
    refine zK 14 (by kernel_rfl) rfl (fun K hK => ?_)
    go_simp
    refine (vCross_any b r5.2 (q.1, q.2.1, q.2.2.1) (p.1, p.2.1, p.2.2.1) _ f5).mono ?_
    rintro e w6 ⟨rfl, f6, k6⟩
    generalize e6 : vCrossS r5.2 (q.1, q.2.1, q.2.2.1) (p.1, p.2.1, p.2.2.1) = r6 at f6 ⊢
    have E6 : Hid _ := e6
    clear e6
    have K6 := Kept.trans K5 k6
    have B0_6 := B0_5.kept k6 (by omega)
    have B1_6 := B1_5.kept k6 (by omega)
    have B2_6 := B2_5.kept k6 (by omega)
    have B3_6 := B3_5.kept k6 (by omega)
    have B4_6 := B4_5.kept k6 (by omega)
    have B5_6 := B5_5.kept k6 (by omega)
    have z6 := B5_6.lies
    clear zH
    refine hK.out _ _ ⟨B3_6, B4_6⟩ (fun zH => ?_)
    clear hK K K5 f5 B0_5 B1_5 B2_5 B3_5 B4_5 B5_5 k6
    refine zK 15 (by kernel_rfl) rfl (fun K hK => ?_)
    go_simp
    refine (vAdd_any b r6.2 r5.1 r6.1 _ f6).mono ?_
    rintro e w7 ⟨rfl, f7, k7⟩
    generalize e7 : vAddS r6.2 r5.1 r6.1 = r7 at f7 ⊢
    have E7 : Hid _ := e7
    clear e7
    have K7 := Kept.trans K6 k7
    have B0_7 := B0_6.kept k7 (by omega)
    have B1_7 := B1_6.kept k7 (by omega)
    have B2_7 := B2_6.kept k7 (by omega)
    have B3_7 := B3_6.kept k7 (by omega)
    have B4_7 := B4_6.kept k7 (by omega)
    have B5_7 := B5_6.kept k7 (by omega)
    have z7 := B5_7.lies
    clear zH
    refine hK.out _ _ ⟨B3_7, B4_7⟩ (fun zH => ?_)
    clear hK K K6 f6 B0_6 B1_6 B2_6 B3_6 B4_6 B5_6 k7
    refine zK 17 (by kernel_rfl) rfl (fun K hK => ?_)
    have c5_B5_0 : w7.cell? ⟨w4.heap.size, 0, none⟩ = some (.int .i64 0) := B5_7.c 0 (zD rfl)
    have c5_B5_1 : w7.cell? ⟨w4.heap.size, 1, none⟩ = some (.int .i64 0) := B5_7.c 1 (zD rfl)
    have c5_B5_2 : w7.cell? ⟨w4.heap.size, 2, none⟩ = some (.int .i64 0) := B5_7.c 2 (zD rfl)
    have g5_B5_0 := B5_7.f 0 (zD rfl)
    have g5_B5_1 := B5_7.f 1 (zD rfl)
    have g5_B5_2 := B5_7.f 2 (zD rfl)
    go_simp
    clear zH
    refine hK.out _ _ ⟨(((B3_7.new _ _ (by omega) _).new _ _ (by omega) _).new _ _ (by omega) _), (((B4_7.new _ _ (by omega) _).new _ _ (by omega) _).new _ _ (by omega) _)⟩ (fun zH => ?_)
    clear hK K c5_B5_0 c5_B5_1 c5_B5_2 g5_B5_0 g5_B5_1 g5_B5_2
    refine wpAnyH_done (by kernel_rfl) ?_ _
    clear zH
    exact cont1 _ _ _ _ _ _ _ _ _ _ _ _ _ _ _ _ _ _ _ _ _ _ _ _ _ _ _ w4.heap.size r3 r4 r5 r6 r7 E3 E4 E5 E6 E7 (((K7.new _ _ (by omega) _).new _ _ (by omega) _).new _ _ (by omega) _) (((f7.new _ _ (by omega) _).new _ _ (by omega) _).new _ _ (by omega) _) (((B0_7.new _ _ (by omega) _).new _ _ (by omega) _).new _ _ (by omega) _) (((B1_7.new _ _ (by omega) _).new _ _ (by omega) _).new _ _ (by omega) _) (((B2_7.new _ _ (by omega) _).new _ _ (by omega) _).new _ _ (by omega) _) (((B3_7.new _ _ (by omega) _).new _ _ (by omega) _).new _ _ (by omega) _) (((B4_7.new _ _ (by omega) _).new _ _ (by omega) _).new _ _ (by omega) _) (((B5_7.put 0 (zD rfl) (.int .i64 r7.1.1) [.int .i64 r7.1.1, .int .i64 0, .int .i64 0] rfl).put 1 (zD rfl) (.int .i64 r7.1.2.1) [.int .i64 r7.1.1, .int .i64 r7.1.2.1, .int .i64 0] rfl).put 2 (zD rfl) (.int .i64 r7.1.2.2) [.int .i64 r7.1.1, .int .i64 r7.1.2.1, .int .i64 r7.1.2.2] rfl) (by omega) (by omega) (by omega) (by omega) (by omega) (by omega) (by omega)
  ·go_simp
   clear zH
   refine hK.out _ _ ⟨(B3_3.alloc _), (B4_3.alloc _)⟩ (fun zH => ?_)
   clear hK K
   refine zK 9 (by kernel_rfl) rfl (fun K hK => ?_)
   go_simp
   refine (vScale_any b r3.2 (q.1, q.2.1, q.2.2.1) p.2.2.2 _ (f3.alloc _)).mono ?_
   rintro e w4 ⟨rfl, f4, k4⟩
   generalize e4 : vScaleS r3.2 (q.1, q.2.1, q.2.2.1) p.2.2.2 = r4 at f4 ⊢
   have E4 : Hid _ := e4
   clear e4
   have K4 : Kept b w w4 := Kept.trans (K3.al _) k4
   have B0_4 := (B0_3.alloc _).kept k4 (by omega)
   have B1_4 := (B1_3.alloc _).kept k4 (by omega)
   have B2_4 := (B2_3.alloc _).kept k4 (by omega)
   have B3_4 := (B3_3.alloc _).kept k4 (by omega)
   have B4_4 := (B4_3.alloc _).kept k4 (by omega)
   have B5_4 : Arr w3.heap.size [.int .i64 0, .int .i64 0, .int .i64 0] w4 := (Arr_at _ _ [.int .i64 0, .int .i64 0, .int .i64 0] _ (by simp)).kept k4 (by omega)
   have z4 := B5_4.lies
   clear zH
   refine hK.out _ _ ⟨B3_4, B4_4⟩ (fun zH => ?_)
   clear hK K K3 f3 B0_3 B1_3 B2_3 B3_3 B4_3 k4
   refine zK 10 (by kernel_rfl) rfl (fun K hK => ?_)
   go_simp
   refine (vAdd_any b r4.2 r3.1 r4.1 _ f4).mono ?_
   rintro e w5 ⟨rfl, f5, k5⟩
   generalize e5 : vAddS r4.2 r3.1 r4.1 = r5 at f5 ⊢
   have E5 : Hid _ := e5
   clear e5
   have K5 := Kept.trans K4 k5
   have B0_5 := B0_4.kept k5 (by omega)
   have B1_5 := B1_4.kept k5 (by omega)
   have B2_5 := B2_4.kept k5 (by omega)
   have B3_5 := B3_4.kept k5 (by omega)
   have B4_5 := B4_4.kept k5 (by omega)
   have B5_5 := B5_4.kept k5 (by omega)
   have z5 := B5_5.lies
   clear zH
   refine hK.out _ _ ⟨B3_5, B4_5⟩ (fun zH => ?_)
   clear hK K K4 f4 B0_4 B1_4 B2_4 B3_4 B4_4 B5_4 k5
   refine zK 14 (by kernel_rfl) rfl (fun K hK => ?_)
   go_simp
   refine (vCross_any b r5.2 (q.1, q.2.1, q.2.2.1) (p.1, p.2.1, p.2.2.1) _ f5).mono ?_
   rintro e w6 ⟨rfl, f6, k6⟩
   generalize e6 : vCrossS r5.2 (q.1, q.2.1, q.2.2.1) (p.1, p.2.1, p.2.2.1) = r6 at f6 ⊢
   have E6 : Hid _ := e6
   clear e6
   have K6 := Kept.trans K5 k6
   have B0_6 := B0_5.kept k6 (by omega)
   have B1_6 := B1_5.kept k6 (by omega)
   have B2_6 := B2_5.kept k6 (by omega)
   have B3_6 := B3_5.kept k6 (by omega)
   have B4_6 := B4_5.kept k6 (by omega)
   have B5_6 := B5_5.kept k6 (by omega)
   have z6 := B5_6.lies
   clear zH
   refine hK.out _ _ ⟨B3_6, B4_6⟩ (fun zH => ?_)
   clear hK K K5 f5 B0_5 B1_5 B2_5 B3_5 B4_5 B5_5 k6
   refine zK 15 (by kernel_rfl) rfl (fun K hK => ?_)
   go_simp
   refine (vAdd_any b r6.2 r5.1 r6.1 _ f6).mono ?_
   rintro e w7 ⟨rfl, f7, k7⟩
   generalize e7 : vAddS r6.2 r5.1 r6.1 = r7 at f7 ⊢
   have E7 : Hid _ := e7
   clear e7
   have K7 := Kept.trans K6 k7
   have B0_7 := B0_6.kept k7 (by omega)
   have B1_7 := B1_6.kept k7 (by omega)
   have B2_7 := B2_6.kept k7 (by omega)
   have B3_7 := B3_6.kept k7 (by omega)
   have B4_7 := B4_6.kept k7 (by omega)
   have B5_7 := B5_6.kept k7 (by omega)
   have z7 := B5_7.lies
   clear zH
   refine hK.out _ _ ⟨B3_7, B4_7⟩ (fun zH => ?_)
   clear hK K K6 f6 B0_6 B1_6 B2_6 B3_6 B4_6 B5_6 k7
   refine zK 17 (by kernel_rfl) rfl (fun K hK => ?_)
   have c5_B5_0 : w7.cell? ⟨w3.heap.size, 0, none⟩ = some (.int .i64 0) := B5_7.c 0 (zD rfl)
   have c5_B5_1 : w7.cell? ⟨w3.heap.size, 1, none⟩ = some (.int .i64 0) := B5_7.c 1 (zD rfl)
   have c5_B5_2 : w7.cell? ⟨w3.heap.size, 2, none⟩ = some (.int .i64 0) := B5_7.c 2 (zD rfl)
   have g5_B5_0 := B5_7.f 0 (zD rfl)
   have g5_B5_1 := B5_7.f 1 (zD rfl)
   have g5_B5_2 := B5_7.f 2 (zD rfl)
   go_simp
   clear zH
   refine hK.out _ _ ⟨(((B3_7.new _ _ (by omega) _).new _ _ (by omega) _).new _ _ (by omega) _), (((B4_7.new _ _ (by omega) _).new _ _ (by omega) _).new _ _ (by omega) _)⟩ (fun zH => ?_)
   clear hK K c5_B5_0 c5_B5_1 c5_B5_2 g5_B5_0 g5_B5_1 g5_B5_2
   refine wpAnyH_done (by kernel_rfl) ?_ _
   clear zH
   exact cont1 _ _ _ _ _ _ _ _ _ _ _ _ _ _ _ _ _ _ _ _ _ _ _ _ _ _ _ w3.heap.size r3 r4 r5 r6 r7 E3 E4 E5 E6 E7 (((K7.new _ _ (by omega) _).new _ _ (by omega) _).new _ _ (by omega) _) (((f7.new _ _ (by omega) _).new _ _ (by omega) _).new _ _ (by omega) _) (((B0_7.new _ _ (by omega) _).new _ _ (by omega) _).new _ _ (by omega) _) (((B1_7.new _ _ (by omega) _).new _ _ (by omega) _).new _ _ (by omega) _) (((B2_7.new _ _ (by omega) _).new _ _ (by omega) _).new _ _ (by omega) _) (((B3_7.new _ _ (by omega) _).new _ _ (by omega) _).new _ _ (by omega) _) (((B4_7.new _ _ (by omega) _).new _ _ (by omega) _).new _ _ (by omega) _) (((B5_7.put 0 (zD rfl) (.int .i64 r7.1.1) [.int .i64 r7.1.1, .int .i64 0, .int .i64 0] rfl).put 1 (zD rfl) (.int .i64 r7.1.2.1) [.int .i64 r7.1.1, .int .i64 r7.1.2.1, .int .i64 0] rfl).put 2 (zD rfl) (.int .i64 r7.1.2.2) [.int .i64 r7.1.1, .int .i64 r7.1.2.1, .int .i64 r7.1.2.2] rfl) (by omega) (by omega) (by omega) (by omega) (by omega) (by omega) (by omega)
 ·go_simp
  clear zH
  refine hK.out _ _ ⟨((B3_2.alloc _).drew.alloc _), ((Arr_at _ _ [.int .i64 q.1, .int .i64 q.2.1, .int .i64 q.2.2.1] _ (by simp)).drew.alloc _)⟩ (fun zH => ?_)
  clear hK K
  refine zK 5 (by kernel_rfl) rfl (fun K hK => ?_)
  go_simp
  refine (vScale_any b bad (p.1, p.2.1, p.2.2.1) q.2.2.2 _ ((BF_2.alloc _).drew.alloc _)).mono ?_
  rintro e w3 ⟨rfl, f3, k3⟩
  generalize e3 : vScaleS bad (p.1, p.2.1, p.2.2.1) q.2.2.2 = r3 at f3 ⊢
  have E3 : Hid _ := e3
  clear e3
  have K3 : Kept b w w3 := Kept.trans ((K2.al _).drew.al _) k3
  have B0_3 := ((B0_2.alloc _).drew.alloc _).kept k3 (by omega)
  have B1_3 := ((B1_2.alloc _).drew.alloc _).kept k3 (by omega)
  have B2_3 := ((B2_2.alloc _).drew.alloc _).kept k3 (by omega)
  have B3_3 := ((B3_2.alloc _).drew.alloc _).kept k3 (by omega)
  have B4_3 : Arr w2.heap.size [.int .i64 q.1, .int .i64 q.2.1, .int .i64 q.2.2.1] w3 := ((Arr_at _ _ [.int .i64 q.1, .int .i64 q.2.1, .int .i64 q.2.2.1] _ (by simp)).drew.alloc _).kept k3 (by omega)
  have B5_3 : Arr (w2.heap.size + 1) [.int .i64 0, .int .i64 0, .int .i64 0] w3 := (Arr_at _ _ [.int .i64 0, .int .i64 0, .int .i64 0] _ (by simp)).kept k3 (by omega)
  have z3 := B5_3.lies
  clear zH
  refine hK.out _ _ ⟨B3_3, B4_3⟩ (fun zH => ?_)
  clear hK K K2 BF_2 B0_2 B1_2 B2_2 B3_2 k3
  refine zK 9 (by kernel_rfl) rfl (fun K hK => ?_)
  go_simp
  refine (vScale_any b r3.2 (q.1, q.2.1, q.2.2.1) p.2.2.2 _ f3).mono ?_
  rintro e w4 ⟨rfl, f4, k4⟩
  generalize e4 : vScaleS r3.2 (q.1, q.2.1, q.2.2.1) p.2.2.2 = r4 at f4 ⊢
  have E4 : Hid _ := e4
  clear e4
  have K4 := Kept.trans K3 k4
  have B0_4 := B0_3.kept k4 (by omega)
  have B1_4 := B1_3.kept k4 (by omega)
  have B2_4 := B2_3.kept k4 (by omega)
  have B3_4 := B3_3.kept k4 (by omega)
  have B4_4 := B4_3.kept k4 (by omega)
  have B5_4 := B5_3.kept k4 (by omega)
  have z4 := B5_4.lies
  clear zH
  refine hK.out _ _ ⟨B3_4, B4_4⟩ (fun zH => ?_)
  clear hK K K3 f3 B0_3 B1_3 B2_3 B3_3 B4_3 B5_3 k4
  refine zK 10 (by kernel_rfl) rfl (fun K hK => ?_)
  go_simp
  refine (vAdd_any b r4.2 r3.1 r4.1 _ f4).mono ?_
  rintro e w5 ⟨rfl, f5, k5⟩
  generalize e5 : vAddS r4.2 r3.1 r4.1 = r5 at f5 ⊢
  have E5 : Hid _ := e5
  clear e5
  have K5 := Kept.trans K4 k5
  have B0_5 := B0_4.kept k5 (by omega)
  have B1_5 := B1_4.kept k5 (by omega)
  have B2_5 := B2_4.kept k5 (by omega)
  have B3_5 := B3_4.kept k5 (by omega)
  have B4_5 := B4_4.kept k5 (by omega)
  have B5_5 := B5_4.kept k5 (by omega)
  have z5 := B5_5.lies
  clear zH
  refine hK.out _ _ ⟨B3_5, B4_5⟩ (fun zH => ?_)
  clear hK K K4 f4 B0_4 B1_4 B2_4 B3_4 B4_4 B5_4 k5
  refine zK 14 (by kernel_rfl) rfl (fun K hK => ?_)
  go_simp
  refine (vCross_any b r5.2 (q.1, q.2.1, q.2.2.1) (p.1, p.2.1, p.2.2.1) _ f5).mono ?_
  rintro e w6 ⟨rfl, f6, k6⟩
  generalize e6 : vCrossS r5.2 (q.1, q.2.1, q.2.2.1) (p.1, p.2.1, p.2.2.1) = r6 at f6 ⊢
  have E6 : Hid _ := e6
  clear e6
  have K6 := Kept.trans K5 k6
  have B0_6 := B0_5.kept k6 (by omega)
  have B1_6 := B1_5.kept k6 (by omega)
  have B2_6 := B2_5.kept k6 (by omega)
  have B3_6 := B3_5.kept k6 (by omega)
  have B4_6 := B4_5.kept k6 (by omega)
  have B5_6 := B5_5.kept k6 (by omega)
  have z6 := B5_6.lies
  clear zH
  refine hK.out _ _ ⟨B3_6, B4_6⟩ (fun zH => ?_)
  clear hK K K5 f5 B0_5 B1_5 B2_5 B3_5 B4_5 B5_5 k6
  refine zK 15 (by kernel_rfl) rfl (fun K hK => ?_)
  go_simp
  refine (vAdd_any b r6.2 r5.1 r6.1 _ f6).mono ?_
  rintro e w7 ⟨rfl, f7, k7⟩
  generalize e7 : vAddS r6.2 r5.1 r6.1 = r7 at f7 ⊢
  have E7 : Hid _ := e7
  clear e7
  have K7 := Kept.trans K6 k7
  have B0_7 := B0_6.kept k7 (by omega)
  have B1_7 := B1_6.kept k7 (by omega)
  have B2_7 := B2_6.kept k7 (by omega)
  have B3_7 := B3_6.kept k7 (by omega)
  have B4_7 := B4_6.kept k7 (by omega)
  have B5_7 := B5_6.kept k7 (by omega)
  have z7 := B5_7.lies
  clear zH
  refine hK.out _ _ ⟨B3_7, B4_7⟩ (fun zH => ?_)
  clear hK K K6 f6 B0_6 B1_6 B2_6 B3_6 B4_6 B5_6 k7
  refine zK 17 (by kernel_rfl) rfl (fun K hK => ?_)
  have c5_B5_0 : w7.cell? ⟨w2.heap.size + 1, 0, none⟩ = some (.int .i64 0) := B5_7.c 0 (zD rfl)
  have c5_B5_1 : w7.cell? ⟨w2.heap.size + 1, 1, none⟩ = some (.int .i64 0) := B5_7.c 1 (zD rfl)
  have c5_B5_2 : w7.cell? ⟨w2.heap.size + 1, 2, none⟩ = some (.int .i64 0) := B5_7.c 2 (zD rfl)
  have g5_B5_0 := B5_7.f 0 (zD rfl)
  have g5_B5_1 := B5_7.f 1 (zD rfl)
  have g5_B5_2 := B5_7.f 2 (zD rfl)
  go_simp
  clear zH
  refine hK.out _ _ ⟨(((B3_7.new _ _ (by omega) _).new _ _ (by omega) _).new _ _ (by omega) _), (((B4_7.new _ _ (by omega) _).new _ _ (by omega) _).new _ _ (by omega) _)⟩ (fun zH => ?_)
  clear hK K c5_B5_0 c5_B5_1 c5_B5_2 g5_B5_0 g5_B5_1 g5_B5_2
  refine wpAnyH_done (by kernel_rfl) ?_ _
  clear zH
  exact cont1 _ _ _ _ _ _ _ _ _ _ _ _ _ _ _ _ _ _ _ _ _ _ _ _ _ _ _ (w2.heap.size + 1) r3 r4 r5 r6 r7 E3 E4 E5 E6 E7 (((K7.new _ _ (by omega) _).new _ _ (by omega) _).new _ _ (by omega) _) (((f7.new _ _ (by omega) _).new _ _ (by omega) _).new _ _ (by omega) _) (((B0_7.new _ _ (by omega) _).new _ _ (by omega) _).new _ _ (by omega) _) (((B1_7.new _ _ (by omega) _).new _ _ (by omega) _).new _ _ (by omega) _) (((B2_7.new _ _ (by omega) _).new _ _ (by omega) _).new _ _ (by omega) _) (((B3_7.new _ _ (by omega) _).new _ _ (by omega) _).new _ _ (by omega) _) (((B4_7.new _ _ (by omega) _).new _ _ (by omega) _).new _ _ (by omega) _) (((B5_7.put 0 (zD rfl) (.int .i64 r7.1.1) [.int .i64 r7.1.1, .int .i64 0, .int .i64 0] rfl).put 1 (zD rfl) (.int .i64 r7.1.2.1) [.int .i64 r7.1.1, .int .i64 r7.1.2.1, .int .i64 0] rfl).put 2 (zD rfl) (.int .i64 r7.1.2.2) [.int .i64 r7.1.1, .int .i64 r7.1.2.1, .int .i64 r7.1.2.2] rfl) (by omega) (by omega) (by omega) (by omega) (by omega) (by omega) (by omega)
end Go.Proofs.Ytooehgijllihdaa
namespace Go.Proofs.Ytooehgijllihdaa
open Go.RowKit
set_option maxRecDepth 100000
set_option maxHeartbeats 20000000
theorem qUnit_any (b : Nat) (bad : Bool) (q : V4) (w : World) (hw : Fl b bad w) :
  Calls Try.prog 5 #[.pointer (some ⟨b, 0, none⟩), .agg #[.int .i64 q.1, .int .i64 q.2.1, .int .i64 q.2.2.1, .int .i64 q.2.2.2]] w fun e w' => e = .returned (.agg #[.int .i64 ((qUnitS bad q).1.1), .int .i64 ((qUnitS bad q).1.2.1), .int .i64 ((qUnitS bad q).1.2.2.1), .int .i64 ((qUnitS bad q).1.2.2.2)]) ∧ Fl b (qUnitS bad q).2 w' ∧ Kept b w w' := by
 have hl := hw.lies
 go_enter Try.func5, Try.ntmps5
 go_wp2_with fail
 refine (parted_any q _).mono ?_
 rintro e w1 ⟨rfl, k1⟩
 have K1 : Kept b w w1 := Kept.trans (((Kept.refl b w).al _).al _) (Kept.of_below k1)
 have BF_1 := ((hw.alloc _).alloc _).below k1
 have B0_1 := ((Arr_at _ w.heap.size [.int .i64 q.1, .int .i64 q.2.1, .int .i64 q.2.2.1, .int .i64 q.2.2.2] _ (by simp)).alloc _).below k1
 have B1_1 := (Arr_at _ (w.heap.size + 1) [.int .i64 0, .int .i64 0, .int .i64 0, .int .i64 0] _ (by simp)).below k1
 have z1 := B1_1.lies
 clear k1
 go_wp2_with fail
 refine (vNorm_any b bad (q.1, q.2.1, q.2.2.1) _ (BF_1.alloc _)).mono ?_
 rintro e w2 ⟨rfl, f2, k2⟩
 generalize e2 : vNormS bad (q.1, q.2.1, q.2.2.1) = r2 at f2 ⊢
 have E2 : Hid _ := e2
 clear e2
 have K2 : Kept b w w2 := Kept.trans (K1.al _) k2
 have B0_2 := (B0_1.alloc _).kept k2 (by omega)
 have B1_2 := (B1_1.alloc _).kept k2 (by omega)
 have B2_2 : Arr w1.heap.size [.int .i64 q.1, .int .i64 q.2.1, .int .i64 q.2.2.1] w2 := (Arr_at _ _ [.int .i64 q.1, .int .i64 q.2.1, .int .i64 q.2.2.1] _ (by simp)).kept k2 (by omega)
 have z2 := B2_2.lies
 clear K1 BF_1 B0_1 B1_1 k2
 go_wp2_with fail
 refine (Norm_any b r2.2 r2.1 q.2.2.2 0 _ f2).mono ?_
 rintro e w3 ⟨rfl, f3, k3⟩
 generalize e3 : normS r2.2 r2.1 q.2.2.2 0 = r3 at f3 ⊢
 have E3 : Hid _ := e3
 clear e3
 have K3 := Kept.trans K2 k3
 have B0_3 := B0_2.kept k3 (by omega)
 have B1_3 := B1_2.kept k3 (by omega)
 have B2_3 := B2_2.kept k3 (by omega)
 have z3 := B2_3.lies
 clear K2 f2 B0_2 B1_2 B2_2 k3
 by_cases hc1 : r3.1 < 549755813888
 ·have Hhc1 : Hid (r3.1 < 549755813888) := hc1
  go_wp2_with fail
  refine (Fail_any b r3.2  _ f3).mono ?_
  rintro e w4 ⟨rfl, f4, k4⟩
  have K4 := Kept.trans K3 k4
  have B0_4 := B0_3.kept k4 (by omega)
  have B1_4 := B1_3.kept k4 (by omega)
  have B2_4 := B2_3.kept k4 (by omega)
  have z4 := B2_4.lies
  clear K3 f3 B0_3 B1_3 B2_3 k4
  have c5_B1_0 : w4.cell? ⟨w.heap.size + 1, 0, none⟩ = some (.int .i64 0) := B1_4.c 0 (zD rfl)
  have c5_B1_1 : w4.cell? ⟨w.heap.size + 1, 1, none⟩ = some (.int .i64 0) := B1_4.c 1 (zD rfl)
  have c5_B1_2 : w4.cell? ⟨w.heap.size + 1, 2, none⟩ = some (.int .i64 0) := B1_4.c 2 (zD rfl)
  have c5_B1_3 : w4.cell? ⟨w.heap.size + 1, 3, none⟩ = some (.int .i64 0) := B1_4.c 3 (zD rfl)
  have g5_B1_0 := B1_4.f 0 (zD rfl)
  have g5_B1_1 := B1_4.f 1 (zD rfl)
  have g5_B1_2 := B1_4.f 2 (zD rfl)
  have g5_B1_3 := B1_4.f 3 (zD rfl)
  go_wp2
  clear c5_B1_0 c5_B1_1 c5_B1_2 c5_B1_3 g5_B1_0 g5_B1_1 g5_B1_2 g5_B1_3
  have d0 := Arr.c (B1_4.put 0 (zD rfl) (.int .i64 0) [.int .i64 0, .int .i64 0, .int .i64 0, .int .i64 0] rfl) 0 (zD rfl)
  have d1 := Arr.c ((B1_4.put 0 (zD rfl) (.int .i64 0) [.int .i64 0, .int .i64 0, .int .i64 0, .int .i64 0] rfl).put 1 (zD rfl) (.int .i64 0) [.int .i64 0, .int .i64 0, .int .i64 0, .int .i64 0] rfl) 1 (zD rfl)
  have d2 := Arr.c (((B1_4.put 0 (zD rfl) (.int .i64 0) [.int .i64 0, .int .i64 0, .int .i64 0, .int .i64 0] rfl).put 1 (zD rfl) (.int .i64 0) [.int .i64 0, .int .i64 0, .int .i64 0, .int .i64 0] rfl).put 2 (zD rfl) (.int .i64 0) [.int .i64 0, .int .i64 0, .int .i64 0, .int .i64 0] rfl) 2 (zD rfl)
  have d3 := Arr.c ((((B1_4.put 0 (zD rfl) (.int .i64 0) [.int .i64 0, .int .i64 0, .int .i64 0, .int .i64 0] rfl).put 1 (zD rfl) (.int .i64 0) [.int .i64 0, .int .i64 0, .int .i64 0, .int .i64 0] rfl).put 2 (zD rfl) (.int .i64 0) [.int .i64 0, .int .i64 0, .int .i64 0, .int .i64 0] rfl).put 3 (zD rfl) (.int .i64 0) [.int .i64 0, .int .i64 0, .int .i64 0, .int .i64 0] rfl) 3 (zD rfl)
  refine bodyPost_ret (v := .agg #[.int .i64 0, .int .i64 0, .int .i64 0, .int .i64 0]) (by simp [results, Try.results5, go_sem, d0, d1, d2, d3]) rfl ?_
  have hs : qUnitS bad q = ((0, 0, 0, 0), true) := by unfold qUnitS; simp only [E2.out, E3.out]; rw [if_pos (by have := Hhc1.out; omega)]
  rw [hs]
  exact ⟨rfl, ((((f4.new _ _ (by omega) _).new _ _ (by omega) _).new _ _ (by omega) _).new _ _ (by omega) _), ((((K4.new _ _ (by omega) _).new _ _ (by omega) _).new _ _ (by omega) _).new _ _ (by omega) _)⟩
 ·have Hhc1 : Hid (¬ r3.1 < 549755813888) := hc1
  go_wp2_with fail
  refine wp_region_held_drew (S := fun w' => Arr w.heap.size [.int .i64 q.1, .int .i64 q.2.1, .int .i64 q.2.2.1, .int .i64 q.2.2.2] w') (by kernel_rfl) B0_3.drew (fun zH => ?_)
  refine zT 0 rfl (by kernel_rfl) (fun _ _ _ => id) rfl (fun _ _ => by go_simp <;> with_reducible rfl) zH ?_
  simp only [Act.put, zA, zB, zC]
  refine zT 1 rfl (by kernel_rfl) (fun _ _ _ => id) rfl (fun _ _ => by go_simp <;> with_reducible rfl) zH ?_
  simp only [Act.put, zA, zB, zC]
  refine zT 2 rfl (by kernel_rfl) (fun _ _ _ => id) rfl (fun wx hS => by have hc0 : wx.cell? ⟨w.heap.size, 0, none⟩ = some (.int .i64 q.1) := hS.c 0 (zD rfl); go_simp <;> with_reducible rfl) zH ?_
  simp only [Act.put, zA, zB, zC]
  refine zT 3 rfl (by kernel_rfl) (fun _ _ _ => id) rfl (fun _ _ => by go_simp <;> with_reducible rfl) zH ?_
  simp only [Act.put, zA, zB, zC]
  refine zT 5 rfl (by kernel_rfl) (fun _ _ _ => id) rfl (fun _ _ => by go_simp <;> with_reducible rfl) zH ?_
  simp only [Act.put, zA, zB, zC]
  refine zT 6 rfl (by kernel_rfl) (fun _ _ _ => id) rfl (fun _ _ => by go_simp <;> with_reducible rfl) zH ?_
  simp only [Act.put, zA, zB, zC]
  refine zT 7 rfl (by kernel_rfl) (fun _ _ _ => id) rfl (fun wx hS => by have hc1 : wx.cell? ⟨w.heap.size, 1, none⟩ = some (.int .i64 q.2.1) := hS.c 1 (zD rfl); go_simp <;> with_reducible rfl) zH ?_
  simp only [Act.put, zA, zB, zC]
  refine zT 8 rfl (by kernel_rfl) (fun _ _ _ => id) rfl (fun _ _ => by go_simp <;> with_reducible rfl) zH ?_
  simp only [Act.put, zA, zB, zC]
  refine zT 10 rfl (by kernel_rfl) (fun _ _ _ => id) rfl (fun _ _ => by go_simp <;> with_reducible rfl) zH ?_
  simp only [Act.put, zA, zB, zC]
  refine zT 11 rfl (by kernel_rfl) (fun _ _ _ => id) rfl (fun _ _ => by go_simp <;> with_reducible rfl) zH ?_
  simp only [Act.put, zA, zB, zC]
  refine zT 12 rfl (by kernel_rfl) (fun _ _ _ => id) rfl (fun wx hS => by have hc2 : wx.cell? ⟨w.heap.size, 2, none⟩ = some (.int .i64 q.2.2.1) := hS.c 2 (zD rfl); go_simp <;> with_reducible rfl) zH ?_
  simp only [Act.put, zA, zB, zC]
  refine zT 13 rfl (by kernel_rfl) (fun _ _ _ => id) rfl (fun _ _ => by go_simp <;> with_reducible rfl) zH ?_
  simp only [Act.put, zA, zB, zC]
  refine zT 15 rfl (by kernel_rfl) (fun _ _ _ => id) rfl (fun _ _ => by go_simp <;> with_reducible rfl) zH ?_
  simp only [Act.put, zA, zB, zC]
  refine zT 16 rfl (by kernel_rfl) (fun _ _ _ => id) rfl (fun _ _ => by go_simp <;> with_reducible rfl) zH ?_
  simp only [Act.put, zA, zB, zC]
  refine zT 17 rfl (by kernel_rfl) (fun _ _ _ => id) rfl (fun wx hS => by have hc3 : wx.cell? ⟨w.heap.size, 3, none⟩ = some (.int .i64 q.2.2.2) := hS.c 3 (zD rfl); go_simp <;> with_reducible rfl) zH ?_
  simp only [Act.put, zA, zB, zC]
  refine zT 18 rfl (by kernel_rfl) (fun _ _ _ => id) rfl (fun _ _ => by go_simp <;> with_reducible rfl) zH ?_
  simp only [Act.put, zA, zB, zC]
  refine zK 4 (by kernel_rfl) rfl (fun K hK => ?_)
  go_simp
  refine (Div_any b r3.2 q.1 r3.1 _ f3.drew).mono ?_
  rintro e w4 ⟨rfl, f4, k4⟩
  generalize e4 : divS r3.2 q.1 r3.1 = r4 at f4 ⊢
  have E4 : Hid _ := e4
  clear e4
  have K4 : Kept b w w4 := Kept.trans K3.drew k4
  have B0_4 := B0_3.drew.kept k4 (by omega)
  have B1_4 := B1_3.drew.kept k4 (by omega)
  have B2_4 := B2_3.drew.kept k4 (by omega)
  have z4 := B2_4.lies
  clear zH
  refine hK.out _ _ B0_4 (fun zH => ?_)
  clear hK K K3 f3 B0_3 B1_3 B2_3 k4
  refine zK 9 (by kernel_rfl) rfl (fun K hK => ?_)
  go_simp
  refine (Div_any b r4.2 q.2.1 r3.1 _ f4).mono ?_
  rintro e w5 ⟨rfl, f5, k5⟩
  generalize e5 : divS r4.2 q.2.1 r3.1 = r5 at f5 ⊢
  have E5 : Hid _ := e5
  clear e5
  have K5 := Kept.trans K4 k5
  have B0_5 := B0_4.kept k5 (by omega)
  have B1_5 := B1_4.kept k5 (by omega)
  have B2_5 := B2_4.kept k5 (by omega)
  have z5 := B2_5.lies
  clear zH
  refine hK.out _ _ B0_5 (fun zH => ?_)
  clear hK K K4 f4 B0_4 B1_4 B2_4 k5
  refine zK 14 (by kernel_rfl) rfl (fun K hK => ?_)
  go_simp
  refine (Div_any b r5.2 q.2.2.1 r3.1 _ f5).mono ?_
  rintro e w6 ⟨rfl, f6, k6⟩
  generalize e6 : divS r5.2 q.2.2.1 r3.1 = r6 at f6 ⊢
  have E6 : Hid _ := e6
  clear e6
  have K6 := Kept.trans K5 k6
  have B0_6 := B0_5.kept k6 (by omega)
  have B1_6 := B1_5.kept k6 (by omega)
  have B2_6 := B2_5.kept k6 (by omega)
  have z6 := B2_6.lies
  clear zH
  refine hK.out _ _ B0_6 (fun zH => ?_)
  clear hK K K5 f5 B0_5 B1_5 B2_5 k6
  refine zK 19 (by kernel_rfl) rfl (fun K hK => ?_)
  go_simp
  refine (Div_any b r6.2 q.2.2.2 r3.1 _ f6).mono ?_
  rintro e w7 ⟨rfl, f7, k7⟩
  generalize e7 : divS r6.2 q.2.2.2 r3.1 = r7 at f7 ⊢
  have E7 : Hid _ := e7
  clear e7
  have K7 := Kept.trans K6 k7
  have B0_7 := B0_6.kept k7 (by omega)
  have B1_7 := B1_6.kept k7 (by omega)
  have B2_7 := B2_6.kept k7 (by omega)
  have z7 := B2_7.lies
  clear zH
  refine hK.out _ _ B0_7 (fun zH => ?_)
  clear hK K K6 f6 B0_6 B1_6 B2_6 k7
  refine zT 20 rfl (by kernel_rfl) (fun _ _ _ => id) rfl (fun _ _ => by go_simp <;> with_reducible rfl) zH ?_
  simp only [Act.put, zA, zB, zC]
  refine zK 21 (by kernel_rfl) rfl (fun K hK => ?_)
  go_simp
  refine (upright_any (r4.1, r5.1, r6.1, r7.1) _).mono ?_
  rintro e w8 ⟨rfl, k8⟩
  generalize e8 : uprightS (r4.1, r5.1, r6.1, r7.1) = r8
  have E8 : Hid _ := e8
  clear e8
  have K8 : Kept b w w8 := Kept.trans K7 (Kept.of_below k8)
  have BF_8 := f7.below k8
  have B0_8 := B0_7.below k8
  have B1_8 := B1_7.below k8
  have B2_8 := B2_7.below k8
  have z8 := B2_8.lies
  clear zH
  refine hK.out _ _ B0_8 (fun zH => ?_)
  clear hK K K7 f7 B0_7 B1_7 B2_7 k8
  refine zK 22 (by kernel_rfl) rfl (fun K hK => ?_)
  have c5_B1_0 : w8.cell? ⟨w.heap.size + 1, 0, none⟩ = some (.int .i64 0) := B1_8.c 0 (zD rfl)
  have c5_B1_1 : w8.cell? ⟨w.heap.size + 1, 1, none⟩ = some (.int .i64 0) := B1_8.c 1 (zD rfl)
  have c5_B1_2 : w8.cell? ⟨w.heap.size + 1, 2, none⟩ = some (.int .i64 0) := B1_8.c 2 (zD rfl)
  have c5_B1_3 : w8.cell? ⟨w.heap.size + 1, 3, none⟩ = some (.int .i64 0) := B1_8.c 3 (zD rfl)
  have g5_B1_0 := B1_8.f 0 (zD rfl)
  have g5_B1_1 := B1_8.f 1 (zD rfl)
  have g5_B1_2 := B1_8.f 2 (zD rfl)
  have g5_B1_3 := B1_8.f 3 (zD rfl)
  go_simp
  clear zH
  refine hK.out _ _ ((((B0_8.new _ _ (by omega) _).new _ _ (by omega) _).new _ _ (by omega) _).new _ _ (by omega) _) (fun zH => ?_)
  clear hK K c5_B1_0 c5_B1_1 c5_B1_2 c5_B1_3 g5_B1_0 g5_B1_1 g5_B1_2 g5_B1_3
  refine wpAnyH_done (by kernel_rfl) ?_ _
  clear zH
  go_wp2
  have d0 := Arr.c (B1_8.put 0 (zD rfl) (.int .i64 r8.1) [.int .i64 r8.1, .int .i64 0, .int .i64 0, .int .i64 0] rfl) 0 (zD rfl)
  have d1 := Arr.c ((B1_8.put 0 (zD rfl) (.int .i64 r8.1) [.int .i64 r8.1, .int .i64 0, .int .i64 0, .int .i64 0] rfl).put 1 (zD rfl) (.int .i64 r8.2.1) [.int .i64 r8.1, .int .i64 r8.2.1, .int .i64 0, .int .i64 0] rfl) 1 (zD rfl)
  have d2 := Arr.c (((B1_8.put 0 (zD rfl) (.int .i64 r8.1) [.int .i64 r8.1, .int .i64 0, .int .i64 0, .int .i64 0] rfl).put 1 (zD rfl) (.int .i64 r8.2.1) [.int .i64 r8.1, .int .i64 r8.2.1, .int .i64 0, .int .i64 0] rfl).put 2 (zD rfl) (.int .i64 r8.2.2.1) [.int .i64 r8.1, .int .i64 r8.2.1, .int .i64 r8.2.2.1, .int .i64 0] rfl) 2 (zD rfl)
  have d3 := Arr.c ((((B1_8.put 0 (zD rfl) (.int .i64 r8.1) [.int .i64 r8.1, .int .i64 0, .int .i64 0, .int .i64 0] rfl).put 1 (zD rfl) (.int .i64 r8.2.1) [.int .i64 r8.1, .int .i64 r8.2.1, .int .i64 0, .int .i64 0] rfl).put 2 (zD rfl) (.int .i64 r8.2.2.1) [.int .i64 r8.1, .int .i64 r8.2.1, .int .i64 r8.2.2.1, .int .i64 0] rfl).put 3 (zD rfl) (.int .i64 r8.2.2.2) [.int .i64 r8.1, .int .i64 r8.2.1, .int .i64 r8.2.2.1, .int .i64 r8.2.2.2] rfl) 3 (zD rfl)
  refine bodyPost_ret (v := .agg #[.int .i64 r8.1, .int .i64 r8.2.1, .int .i64 r8.2.2.1, .int .i64 r8.2.2.2]) (by simp [results, Try.results5, go_sem, d0, d1, d2, d3]) rfl ?_
  have hs : qUnitS bad q = (r8, r7.2) := by unfold qUnitS; simp only [E2.out, E3.out, E4.out, E5.out, E6.out, E7.out, E8.out]; rw [if_neg (by have := Hhc1.out; omega)]
  rw [hs]
  exact ⟨rfl, ((((BF_8.new _ _ (by omega) _).new _ _ (by omega) _).new _ _ (by omega) _).new _ _ (by omega) _), ((((K8.new _ _ (by omega) _).new _ _ (by omega) _).new _ _ (by omega) _).new _ _ (by omega) _)⟩
end Go.Proofs.Ytooehgijllihdaa
namespace Go.Proofs.Ytooehgijllihdaa
open Go.RowKit
set_option maxRecDepth 100000
set_option maxHeartbeats 20000000
theorem qFromRod_any (b : Nat) (bad : Bool) (p : V3) (w : World) (hw : Fl b bad w) :
  Calls Try.prog 9 #[.pointer (some ⟨b, 0, none⟩), .agg #[.int .i64 p.1, .int .i64 p.2.1, .int .i64 p.2.2]] w fun e w' => e = .returned (.agg #[.int .i64 ((qFromRodS bad p).1.1), .int .i64 ((qFromRodS bad p).1.2.1), .int .i64 ((qFromRodS bad p).1.2.2.1), .int .i64 ((qFromRodS bad p).1.2.2.2)]) ∧ Fl b (qFromRodS bad p).2 w' ∧ Kept b w w' := by
 have hl := hw.lies
 go_enter Try.func9, Try.ntmps9
 go_wp2_with fail
 refine (vDot_any b bad p p _ ((hw.alloc _).alloc _)).mono ?_
 rintro e w1 ⟨rfl, f1, k1⟩
 generalize e1 : vDotS bad p p = r1 at f1 ⊢
 have E1 : Hid _ := e1
 clear e1
 have K1 : Kept b w w1 := Kept.trans (((Kept.refl b w).al _).al _) k1
 have B0_1 : Arr w.heap.size [.int .i64 p.1, .int .i64 p.2.1, .int .i64 p.2.2] w1 := ((Arr_at _ _ [.int .i64 p.1, .int .i64 p.2.1, .int .i64 p.2.2] _ (by simp)).alloc _).kept k1 (by omega)
 have B1_1 : Arr (w.heap.size + 1) [.int .i64 0, .int .i64 0, .int .i64 0, .int .i64 0] w1 := (Arr_at _ _ [.int .i64 0, .int .i64 0, .int .i64 0, .int .i64 0] _ (by simp)).kept k1 (by omega)
 have z1 := B1_1.lies
 clear k1
 go_wp2_with fail
 refine (Add_any b r1.2 17592186044416 r1.1 _ f1).mono ?_
 rintro e w2 ⟨rfl, f2, k2⟩
 generalize e2 : addS r1.2 17592186044416 r1.1 = r2 at f2 ⊢
 have E2 : Hid _ := e2
 clear e2
 have K2 := Kept.trans K1 k2
 have B0_2 := B0_1.kept k2 (by omega)
 have B1_2 := B1_1.kept k2 (by omega)
 have z2 := B1_2.lies
 clear K1 f1 B0_1 B1_1 k2
 go_wp2_with fail
 refine wp_region_held_drew (S := fun w' => Arr w.heap.size [.int .i64 p.1, .int .i64 p.2.1, .int .i64 p.2.2] w') (by kernel_rfl) B0_2.drew (fun zH => ?_)
 refine zT 0 rfl (by kernel_rfl) (fun _ _ _ => id) rfl (fun _ _ => by go_simp <;> with_reducible rfl) zH ?_
 simp only [Act.put, zA, zB, zC]
 refine zT 1 rfl (by kernel_rfl) (fun _ _ _ => id) rfl (fun _ _ => by go_simp <;> with_reducible rfl) zH ?_
 simp only [Act.put, zA, zB, zC]
 refine zT 2 rfl (by kernel_rfl) (fun _ _ _ => id) rfl (fun _ _ => by go_simp <;> with_reducible rfl) zH ?_
 simp only [Act.put, zA, zB, zC]
 refine zT 3 rfl (by kernel_rfl) (fun _ _ _ => id) rfl (fun _ _ => by go_simp <;> with_reducible rfl) zH ?_
 simp only [Act.put, zA, zB, zC]
 refine zT 4 rfl (by kernel_rfl) (fun _ _ _ => id) rfl (fun wx hS => by have hc0 : wx.cell? ⟨w.heap.size, 0, none⟩ = some (.int .i64 p.1) := hS.c 0 (zD rfl); go_simp <;> with_reducible rfl) zH ?_
 simp only [Act.put, zA, zB, zC]
 refine zT 6 rfl (by kernel_rfl) (fun _ _ _ => id) rfl (fun _ _ => by go_simp <;> with_reducible rfl) zH ?_
 simp only [Act.put, zA, zB, zC]
 refine zT 8 rfl (by kernel_rfl) (fun _ _ _ => id) rfl (fun _ _ => by go_simp <;> with_reducible rfl) zH ?_
 simp only [Act.put, zA, zB, zC]
 refine zT 9 rfl (by kernel_rfl) (fun _ _ _ => id) rfl (fun _ _ => by go_simp <;> with_reducible rfl) zH ?_
 simp only [Act.put, zA, zB, zC]
 refine zT 10 rfl (by kernel_rfl) (fun _ _ _ => id) rfl (fun _ _ => by go_simp <;> with_reducible rfl) zH ?_
 simp only [Act.put, zA, zB, zC]
 refine zT 11 rfl (by kernel_rfl) (fun _ _ _ => id) rfl (fun wx hS => by have hc1 : wx.cell? ⟨w.heap.size, 1, none⟩ = some (.int .i64 p.2.1) := hS.c 1 (zD rfl); go_simp <;> with_reducible rfl) zH ?_
 simp only [Act.put, zA, zB, zC]
 refine zT 13 rfl (by kernel_rfl) (fun _ _ _ => id) rfl (fun _ _ => by go_simp <;> with_reducible rfl) zH ?_
 simp only [Act.put, zA, zB, zC]
 refine zT 15 rfl (by kernel_rfl) (fun _ _ _ => id) rfl (fun _ _ => by go_simp <;> with_reducible rfl) zH ?_
 simp only [Act.put, zA, zB, zC]
 refine zT 16 rfl (by kernel_rfl) (fun _ _ _ => id) rfl (fun _ _ => by go_simp <;> with_reducible rfl) zH ?_
 simp only [Act.put, zA, zB, zC]
 refine zT 17 rfl (by kernel_rfl) (fun _ _ _ => id) rfl (fun _ _ => by go_simp <;> with_reducible rfl) zH ?_
 simp only [Act.put, zA, zB, zC]
 refine zT 18 rfl (by kernel_rfl) (fun _ _ _ => id) rfl (fun wx hS => by have hc2 : wx.cell? ⟨w.heap.size, 2, none⟩ = some (.int .i64 p.2.2) := hS.c 2 (zD rfl); go_simp <;> with_reducible rfl) zH ?_
 simp only [Act.put, zA, zB, zC]
 refine zT 20 rfl (by kernel_rfl) (fun _ _ _ => id) rfl (fun _ _ => by go_simp <;> with_reducible rfl) zH ?_
 simp only [Act.put, zA, zB, zC]
 refine zT 22 rfl (by kernel_rfl) (fun _ _ _ => id) rfl (fun _ _ => by go_simp <;> with_reducible rfl) zH ?_
 simp only [Act.put, zA, zB, zC]
 refine zT 23 rfl (by kernel_rfl) (fun _ _ _ => id) rfl (fun _ _ => by go_simp <;> with_reducible rfl) zH ?_
 simp only [Act.put, zA, zB, zC]
 refine zT 24 rfl (by kernel_rfl) (fun _ _ _ => id) rfl (fun _ _ => by go_simp <;> with_reducible rfl) zH ?_
 simp only [Act.put, zA, zB, zC]
 refine zT 26 rfl (by kernel_rfl) (fun _ _ _ => id) rfl (fun _ _ => by go_simp <;> with_reducible rfl) zH ?_
 simp only [Act.put, zA, zB, zC]
 refine zK 5 (by kernel_rfl) rfl (fun K hK => ?_)
 go_simp
 refine (Mul_any b r2.2 p.1 8796093022208 _ f2.drew).mono ?_
 rintro e w3 ⟨rfl, f3, k3⟩
 generalize e3 : mulS r2.2 p.1 8796093022208 = r3 at f3 ⊢
 have E3 : Hid _ := e3
 clear e3
 have K3 : Kept b w w3 := Kept.trans K2.drew k3
 have B0_3 := B0_2.drew.kept k3 (by omega)
 have B1_3 := B1_2.drew.kept k3 (by omega)
 have z3 := B1_3.lies
 clear zH
 refine hK.out _ _ B0_3 (fun zH => ?_)
 clear hK K K2 f2 B0_2 B1_2 k3
 refine zK 7 (by kernel_rfl) rfl (fun K hK => ?_)
 go_simp
 refine (Div_any b r3.2 r3.1 r2.1 _ f3).mono ?_
 rintro e w4 ⟨rfl, f4, k4⟩
 generalize e4 : divS r3.2 r3.1 r2.1 = r4 at f4 ⊢
 have E4 : Hid _ := e4
 clear e4
 have K4 := Kept.trans K3 k4
 have B0_4 := B0_3.kept k4 (by omega)
 have B1_4 := B1_3.kept k4 (by omega)
 have z4 := B1_4.lies
 clear zH
 refine hK.out _ _ B0_4 (fun zH => ?_)
 clear hK K K3 f3 B0_3 B1_3 k4
 refine zK 12 (by kernel_rfl) rfl (fun K hK => ?_)
 go_simp
 refine (Mul_any b r4.2 p.2.1 8796093022208 _ f4).mono ?_
 rintro e w5 ⟨rfl, f5, k5⟩
 generalize e5 : mulS r4.2 p.2.1 8796093022208 = r5 at f5 ⊢
 have E5 : Hid _ := e5
 clear e5
 have K5 := Kept.trans K4 k5
 have B0_5 := B0_4.kept k5 (by omega)
 have B1_5 := B1_4.kept k5 (by omega)
 have z5 := B1_5.lies
 clear zH
 refine hK.out _ _ B0_5 (fun zH => ?_)
 clear hK K K4 f4 B0_4 B1_4 k5
 refine zK 14 (by kernel_rfl) rfl (fun K hK => ?_)
 go_simp
 refine (Div_any b r5.2 r5.1 r2.1 _ f5).mono ?_
 rintro e w6 ⟨rfl, f6, k6⟩
 generalize e6 : divS r5.2 r5.1 r2.1 = r6 at f6 ⊢
 have E6 : Hid _ := e6
 clear e6
 have K6 := Kept.trans K5 k6
 have B0_6 := B0_5.kept k6 (by omega)
 have B1_6 := B1_5.kept k6 (by omega)
 have z6 := B1_6.lies
 clear zH
 refine hK.out _ _ B0_6 (fun zH => ?_)
 clear hK K K5 f5 B0_5 B1_5 k6
 refine zK 19 (by kernel_rfl) rfl (fun K hK => ?_)
 go_simp
 refine (Mul_any b r6.2 p.2.2 8796093022208 _ f6).mono ?_
 rintro e w7 ⟨rfl, f7, k7⟩
 generalize e7 : mulS r6.2 p.2.2 8796093022208 = r7 at f7 ⊢
 have E7 : Hid _ := e7
 clear e7
 have K7 := Kept.trans K6 k7
 have B0_7 := B0_6.kept k7 (by omega)
 have B1_7 := B1_6.kept k7 (by omega)
 have z7 := B1_7.lies
 clear zH
 refine hK.out _ _ B0_7 (fun zH => ?_)
 clear hK K K6 f6 B0_6 B1_6 k7
 refine zK 21 (by kernel_rfl) rfl (fun K hK => ?_)
 go_simp
 refine (Div_any b r7.2 r7.1 r2.1 _ f7).mono ?_
 rintro e w8 ⟨rfl, f8, k8⟩
 generalize e8 : divS r7.2 r7.1 r2.1 = r8 at f8 ⊢
 have E8 : Hid _ := e8
 clear e8
 have K8 := Kept.trans K7 k8
 have B0_8 := B0_7.kept k8 (by omega)
 have B1_8 := B1_7.kept k8 (by omega)
 have z8 := B1_8.lies
 clear zH
 refine hK.out _ _ B0_8 (fun zH => ?_)
 clear hK K K7 f7 B0_7 B1_7 k8
 refine zK 25 (by kernel_rfl) rfl (fun K hK => ?_)
 go_simp
 refine (Sub_any b r8.2 17592186044416 r1.1 _ f8).mono ?_
 rintro e w9 ⟨rfl, f9, k9⟩
 generalize e9 : subS r8.2 17592186044416 r1.1 = r9 at f9 ⊢
 have E9 : Hid _ := e9
 clear e9
 have K9 := Kept.trans K8 k9
 have B0_9 := B0_8.kept k9 (by omega)
 have B1_9 := B1_8.kept k9 (by omega)
 have z9 := B1_9.lies
 clear zH
 refine hK.out _ _ B0_9 (fun zH => ?_)
 clear hK K K8 f8 B0_8 B1_8 k9
 refine zK 27 (by kernel_rfl) rfl (fun K hK => ?_)
 go_simp
 refine (Div_any b r9.2 r9.1 r2.1 _ f9).mono ?_
 rintro e w10 ⟨rfl, f10, k10⟩
 generalize e10 : divS r9.2 r9.1 r2.1 = r10 at f10 ⊢
 have E10 : Hid _ := e10
 clear e10
 have K10 := Kept.trans K9 k10
 have B0_10 := B0_9.kept k10 (by omega)
 have B1_10 := B1_9.kept k10 (by omega)
 have z10 := B1_10.lies
 clear zH
 refine hK.out _ _ B0_10 (fun zH => ?_)
 clear hK K K9 f9 B0_9 B1_9 k10
 refine zT 28 rfl (by kernel_rfl) (fun _ _ _ => id) rfl (fun _ _ => by go_simp <;> with_reducible rfl) zH ?_
 simp only [Act.put, zA, zB, zC]
 refine zK 29 (by kernel_rfl) rfl (fun K hK => ?_)
 go_simp
 refine (qUnit_any b r10.2 (r4.1, r6.1, r8.1, r10.1) _ f10).mono ?_
 rintro e w11 ⟨rfl, f11, k11⟩
 generalize e11 : qUnitS r10.2 (r4.1, r6.1, r8.1, r10.1) = r11 at f11 ⊢
 have E11 : Hid _ := e11
 clear e11
 have K11 := Kept.trans K10 k11
 have B0_11 := B0_10.kept k11 (by omega)
 have B1_11 := B1_10.kept k11 (by omega)
 have z11 := B1_11.lies
 clear zH
 refine hK.out _ _ B0_11 (fun zH => ?_)
 clear hK K K10 f10 B0_10 B1_10 k11
 refine zK 30 (by kernel_rfl) rfl (fun K hK => ?_)
 have c4_B1_0 : w11.cell? ⟨w.heap.size + 1, 0, none⟩ = some (.int .i64 0) := B1_11.c 0 (zD rfl)
 have c4_B1_1 : w11.cell? ⟨w.heap.size + 1, 1, none⟩ = some (.int .i64 0) := B1_11.c 1 (zD rfl)
 have c4_B1_2 : w11.cell? ⟨w.heap.size + 1, 2, none⟩ = some (.int .i64 0) := B1_11.c 2 (zD rfl)
 have c4_B1_3 : w11.cell? ⟨w.heap.size + 1, 3, none⟩ = some (.int .i64 0) := B1_11.c 3 (zD rfl)
 have g4_B1_0 := B1_11.f 0 (zD rfl)
 have g4_B1_1 := B1_11.f 1 (zD rfl)
 have g4_B1_2 := B1_11.f 2 (zD rfl)
 have g4_B1_3 := B1_11.f 3 (zD rfl)
 go_simp
 clear zH
 refine hK.out _ _ ((((B0_11.new _ _ (by omega) _).new _ _ (by omega) _).new _ _ (by omega) _).new _ _ (by omega) _) (fun zH => ?_)
 clear hK K c4_B1_0 c4_B1_1 c4_B1_2 c4_B1_3 g4_B1_0 g4_B1_1 g4_B1_2 g4_B1_3
 refine wpAnyH_done (by kernel_rfl) ?_ _
 clear zH
 go_wp2
 have d0 := Arr.c (B1_11.put 0 (zD rfl) (.int .i64 r11.1.1) [.int .i64 r11.1.1, .int .i64 0, .int .i64 0, .int .i64 0] rfl) 0 (zD rfl)
 have d1 := Arr.c ((B1_11.put 0 (zD rfl) (.int .i64 r11.1.1) [.int .i64 r11.1.1, .int .i64 0, .int .i64 0, .int .i64 0] rfl).put 1 (zD rfl) (.int .i64 r11.1.2.1) [.int .i64 r11.1.1, .int .i64 r11.1.2.1, .int .i64 0, .int .i64 0] rfl) 1 (zD rfl)
 have d2 := Arr.c (((B1_11.put 0 (zD rfl) (.int .i64 r11.1.1) [.int .i64 r11.1.1, .int .i64 0, .int .i64 0, .int .i64 0] rfl).put 1 (zD rfl) (.int .i64 r11.1.2.1) [.int .i64 r11.1.1, .int .i64 r11.1.2.1, .int .i64 0, .int .i64 0] rfl).put 2 (zD rfl) (.int .i64 r11.1.2.2.1) [.int .i64 r11.1.1, .int .i64 r11.1.2.1, .int .i64 r11.1.2.2.1, .int .i64 0] rfl) 2 (zD rfl)
 have d3 := Arr.c ((((B1_11.put 0 (zD rfl) (.int .i64 r11.1.1) [.int .i64 r11.1.1, .int .i64 0, .int .i64 0, .int .i64 0] rfl).put 1 (zD rfl) (.int .i64 r11.1.2.1) [.int .i64 r11.1.1, .int .i64 r11.1.2.1, .int .i64 0, .int .i64 0] rfl).put 2 (zD rfl) (.int .i64 r11.1.2.2.1) [.int .i64 r11.1.1, .int .i64 r11.1.2.1, .int .i64 r11.1.2.2.1, .int .i64 0] rfl).put 3 (zD rfl) (.int .i64 r11.1.2.2.2) [.int .i64 r11.1.1, .int .i64 r11.1.2.1, .int .i64 r11.1.2.2.1, .int .i64 r11.1.2.2.2] rfl) 3 (zD rfl)
 refine bodyPost_ret (v := .agg #[.int .i64 r11.1.1, .int .i64 r11.1.2.1, .int .i64 r11.1.2.2.1, .int .i64 r11.1.2.2.2]) (by simp [results, Try.results9, go_sem, d0, d1, d2, d3]) rfl ?_
 have hs : qFromRodS bad p = (r11.1, r11.2) := by unfold qFromRodS; simp only [E1.out, E2.out, E3.out, E4.out, E5.out, E6.out, E7.out, E8.out, E9.out, E10.out, E11.out]
 rw [hs]
 exact ⟨rfl, ((((f11.new _ _ (by omega) _).new _ _ (by omega) _).new _ _ (by omega) _).new _ _ (by omega) _), ((((K11.new _ _ (by omega) _).new _ _ (by omega) _).new _ _ (by omega) _).new _ _ (by omega) _)⟩
theorem qToRod_any (b : Nat) (bad : Bool) (q : V4) (w : World) (hw : Fl b bad w) :
  Calls Try.prog 11 #[.pointer (some ⟨b, 0, none⟩), .agg #[.int .i64 q.1, .int .i64 q.2.1, .int .i64 q.2.2.1, .int .i64 q.2.2.2]] w fun e w' => e = .returned (.agg #[.int .i64 ((qToRodS bad q).1.1), .int .i64 ((qToRodS bad q).1.2.1), .int .i64 ((qToRodS bad q).1.2.2)]) ∧ Fl b (qToRodS bad q).2 w' ∧ Kept b w w' := by
 have hl := hw.lies
 go_enter Try.func11, Try.ntmps11
 go_wp2_with fail
 refine (upright_any q _).mono ?_
 rintro e w1 ⟨rfl, k1⟩
 generalize e1 : uprightS q = r1
 have E1 : Hid _ := e1
 clear e1
 have K1 : Kept b w w1 := Kept.trans (((Kept.refl b w).al _).al _) (Kept.of_below k1)
 have BF_1 := ((hw.alloc _).alloc _).below k1
 have B0_1 := ((Arr_at _ w.heap.size [.int .i64 q.1, .int .i64 q.2.1, .int .i64 q.2.2.1, .int .i64 q.2.2.2] _ (by simp)).alloc _).below k1
 have B1_1 := (Arr_at _ (w.heap.size + 1) [.int .i64 0, .int .i64 0, .int .i64 0] _ (by simp)).below k1
 have z1 := B1_1.lies
 clear k1
 have c2_B0_0 : w1.cell? ⟨w.heap.size, 0, none⟩ = some (.int .i64 q.1) := B0_1.c 0 (zD rfl)
 have c2_B0_1 : w1.cell? ⟨w.heap.size, 1, none⟩ = some (.int .i64 q.2.1) := B0_1.c 1 (zD rfl)
 have c2_B0_2 : w1.cell? ⟨w.heap.size, 2, none⟩ = some (.int .i64 q.2.2.1) := B0_1.c 2 (zD rfl)
 have c2_B0_3 : w1.cell? ⟨w.heap.size, 3, none⟩ = some (.int .i64 q.2.2.2) := B0_1.c 3 (zD rfl)
 have g2_B0_0 := B0_1.f 0 (zD rfl)
 have g2_B0_1 := B0_1.f 1 (zD rfl)
 have g2_B0_2 := B0_1.f 2 (zD rfl)
 have g2_B0_3 := B0_1.f 3 (zD rfl)
 go_wp2_with fail
 refine (Add_any b bad 1099511627776 r1.2.2.2 _ ((((BF_1.new _ _ (by omega) _).new _ _ (by omega) _).new _ _ (by omega) _).new _ _ (by omega) _)).mono ?_
 rintro e w2 ⟨rfl, f2, k2⟩
 generalize e2 : addS bad 1099511627776 r1.2.2.2 = r2 at f2 ⊢
 have E2 : Hid _ := e2
 clear e2
 have K2 : Kept b w w2 := Kept.trans ((((K1.new _ _ (by omega) _).new _ _ (by omega) _).new _ _ (by omega) _).new _ _ (by omega) _) k2
 have B0_2 := ((((B0_1.put 0 (zD rfl) (.int .i64 r1.1) [.int .i64 r1.1, .int .i64 q.2.1, .int .i64 q.2.2.1, .int .i64 q.2.2.2] rfl).put 1 (zD rfl) (.int .i64 r1.2.1) [.int .i64 r1.1, .int .i64 r1.2.1, .int .i64 q.2.2.1, .int .i64 q.2.2.2] rfl).put 2 (zD rfl) (.int .i64 r1.2.2.1) [.int .i64 r1.1, .int .i64 r1.2.1, .int .i64 r1.2.2.1, .int .i64 q.2.2.2] rfl).put 3 (zD rfl) (.int .i64 r1.2.2.2) [.int .i64 r1.1, .int .i64 r1.2.1, .int .i64 r1.2.2.1, .int .i64 r1.2.2.2] rfl).kept k2 (by omega)
 have B1_2 := ((((B1_1.new _ _ (by omega) _).new _ _ (by omega) _).new _ _ (by omega) _).new _ _ (by omega) _).kept k2 (by omega)
 have z2 := B1_2.lies
 clear c2_B0_0 c2_B0_1 c2_B0_2 c2_B0_3 g2_B0_0 g2_B0_1 g2_B0_2 g2_B0_3 K1 BF_1 B0_1 B1_1 k2
 go_wp2_with fail
 refine wp_region_held_drew (S := fun w' => Arr w.heap.size [.int .i64 r1.1, .int .i64 r1.2.1, .int .i64 r1.2.2.1, .int .i64 r1.2.2.2] w') (by kernel_rfl) B0_2.drew (fun zH => ?_)
 refine zT 0 rfl (by kernel_rfl) (fun _ _ _ => id) rfl (fun _ _ => by go_simp <;> with_reducible rfl) zH ?_
 simp only [Act.put, zA, zB, zC]
 refine zT 1 rfl (by kernel_rfl) (fun _ _ _ => id) rfl (fun _ _ => by go_simp <;> with_reducible rfl) zH ?_
 simp only [Act.put, zA, zB, zC]
 refine zT 2 rfl (by kernel_rfl) (fun _ _ _ => id) rfl (fun _ _ => by go_simp <;> with_reducible rfl) zH ?_
 simp only [Act.put, zA, zB, zC]
 refine zT 3 rfl (by kernel_rfl) (fun _ _ _ => id) rfl (fun _ _ => by go_simp <;> with_reducible rfl) zH ?_
 simp only [Act.put, zA, zB, zC]
 refine zT 4 rfl (by kernel_rfl) (fun _ _ _ => id) rfl (fun wx hS => by have hc0 : wx.cell? ⟨w.heap.size, 0, none⟩ = some (.int .i64 r1.1) := hS.c 0 (zD rfl); go_simp <;> with_reducible rfl) zH ?_
 simp only [Act.put, zA, zB, zC]
 refine zT 6 rfl (by kernel_rfl) (fun _ _ _ => id) rfl (fun _ _ => by go_simp <;> with_reducible rfl) zH ?_
 simp only [Act.put, zA, zB, zC]
 refine zT 8 rfl (by kernel_rfl) (fun _ _ _ => id) rfl (fun _ _ => by go_simp <;> with_reducible rfl) zH ?_
 simp only [Act.put, zA, zB, zC]
 refine zT 9 rfl (by kernel_rfl) (fun _ _ _ => id) rfl (fun _ _ => by go_simp <;> with_reducible rfl) zH ?_
 simp only [Act.put, zA, zB, zC]
 refine zT 10 rfl (by kernel_rfl) (fun _ _ _ => id) rfl (fun _ _ => by go_simp <;> with_reducible rfl) zH ?_
 simp only [Act.put, zA, zB, zC]
 refine zT 11 rfl (by kernel_rfl) (fun _ _ _ => id) rfl (fun wx hS => by have hc1 : wx.cell? ⟨w.heap.size, 1, none⟩ = some (.int .i64 r1.2.1) := hS.c 1 (zD rfl); go_simp <;> with_reducible rfl) zH ?_
 simp only [Act.put, zA, zB, zC]
 refine zT 13 rfl (by kernel_rfl) (fun _ _ _ => id) rfl (fun _ _ => by go_simp <;> with_reducible rfl) zH ?_
 simp only [Act.put, zA, zB, zC]
 refine zT 15 rfl (by kernel_rfl) (fun _ _ _ => id) rfl (fun _ _ => by go_simp <;> with_reducible rfl) zH ?_
 simp only [Act.put, zA, zB, zC]
 refine zT 16 rfl (by kernel_rfl) (fun _ _ _ => id) rfl (fun _ _ => by go_simp <;> with_reducible rfl) zH ?_
 simp only [Act.put, zA, zB, zC]
 refine zT 17 rfl (by kernel_rfl) (fun _ _ _ => id) rfl (fun _ _ => by go_simp <;> with_reducible rfl) zH ?_
 simp only [Act.put, zA, zB, zC]
 refine zT 18 rfl (by kernel_rfl) (fun _ _ _ => id) rfl (fun wx hS => by have hc2 : wx.cell? ⟨w.heap.size, 2, none⟩ = some (.int .i64 r1.2.2.1) := hS.c 2 (zD rfl); go_simp <;> with_reducible rfl) zH ?_
 simp only [Act.put, zA, zB, zC]
 refine zT 20 rfl (by kernel_rfl) (fun _ _ _ => id) rfl (fun _ _ => by go_simp <;> with_reducible rfl) zH ?_
 simp only [Act.put, zA, zB, zC]
 refine zK 5 (by kernel_rfl) rfl (fun K hK => ?_)
 go_simp
 refine (Mul_any b r2.2 r1.1 4398046511104 _ f2.drew).mono ?_
 rintro e w3 ⟨rfl, f3, k3⟩
 generalize e3 : mulS r2.2 r1.1 4398046511104 = r3 at f3 ⊢
 have E3 : Hid _ := e3
 clear e3
 have K3 : Kept b w w3 := Kept.trans K2.drew k3
 have B0_3 := B0_2.drew.kept k3 (by omega)
 have B1_3 := B1_2.drew.kept k3 (by omega)
 have z3 := B1_3.lies
 clear zH
 refine hK.out _ _ B0_3 (fun zH => ?_)
 clear hK K K2 f2 B0_2 B1_2 k3
 refine zK 7 (by kernel_rfl) rfl (fun K hK => ?_)
 go_simp
 refine (Div_any b r3.2 r3.1 r2.1 _ f3).mono ?_
 rintro e w4 ⟨rfl, f4, k4⟩
 generalize e4 : divS r3.2 r3.1 r2.1 = r4 at f4 ⊢
 have E4 : Hid _ := e4
 clear e4
 have K4 := Kept.trans K3 k4
 have B0_4 := B0_3.kept k4 (by omega)
 have B1_4 := B1_3.kept k4 (by omega)
 have z4 := B1_4.lies
 clear zH
 refine hK.out _ _ B0_4 (fun zH => ?_)
 clear hK K K3 f3 B0_3 B1_3 k4
 refine zK 12 (by kernel_rfl) rfl (fun K hK => ?_)
 go_simp
 refine (Mul_any b r4.2 r1.2.1 4398046511104 _ f4).mono ?_
 rintro e w5 ⟨rfl, f5, k5⟩
 generalize e5 : mulS r4.2 r1.2.1 4398046511104 = r5 at f5 ⊢
 have E5 : Hid _ := e5
 clear e5
 have K5 := Kept.trans K4 k5
 have B0_5 := B0_4.kept k5 (by omega)
 have B1_5 := B1_4.kept k5 (by omega)
 have z5 := B1_5.lies
 clear zH
 refine hK.out _ _ B0_5 (fun zH => ?_)
 clear hK K K4 f4 B0_4 B1_4 k5
 refine zK 14 (by kernel_rfl) rfl (fun K hK => ?_)
 go_simp
 refine (Div_any b r5.2 r5.1 r2.1 _ f5).mono ?_
 rintro e w6 ⟨rfl, f6, k6⟩
 generalize e6 : divS r5.2 r5.1 r2.1 = r6 at f6 ⊢
 have E6 : Hid _ := e6
 clear e6
 have K6 := Kept.trans K5 k6
 have B0_6 := B0_5.kept k6 (by omega)
 have B1_6 := B1_5.kept k6 (by omega)
 have z6 := B1_6.lies
 clear zH
 refine hK.out _ _ B0_6 (fun zH => ?_)
 clear hK K K5 f5 B0_5 B1_5 k6
 refine zK 19 (by kernel_rfl) rfl (fun K hK => ?_)
 go_simp
 refine (Mul_any b r6.2 r1.2.2.1 4398046511104 _ f6).mono ?_
 rintro e w7 ⟨rfl, f7, k7⟩
 generalize e7 : mulS r6.2 r1.2.2.1 4398046511104 = r7 at f7 ⊢
 have E7 : Hid _ := e7
 clear e7
 have K7 := Kept.trans K6 k7
 have B0_7 := B0_6.kept k7 (by omega)
 have B1_7 := B1_6.kept k7 (by omega)
 have z7 := B1_7.lies
 clear zH
 refine hK.out _ _ B0_7 (fun zH => ?_)
 clear hK K K6 f6 B0_6 B1_6 k7
 refine zK 21 (by kernel_rfl) rfl (fun K hK => ?_)
 go_simp
 refine (Div_any b r7.2 r7.1 r2.1 _ f7).mono ?_
 rintro e w8 ⟨rfl, f8, k8⟩
 generalize e8 : divS r7.2 r7.1 r2.1 = r8 at f8 ⊢
 have E8 : Hid _ := e8
 clear e8
 have K8 := Kept.trans K7 k8
 have B0_8 := B0_7.kept k8 (by omega)
 have B1_8 := B1_7.kept k8 (by omega)
 have z8 := B1_8.lies
 clear zH
 refine hK.out _ _ B0_8 (fun zH => ?_)
 clear hK K K7 f7 B0_7 B1_7 k8
 refine zT 22 rfl (by kernel_rfl) (fun _ _ _ => id) rfl (fun _ _ => by go_simp <;> with_reducible rfl) zH ?_
 simp only [Act.put, zA, zB, zC]
 refine zK 23 (by kernel_rfl) rfl (fun K hK => ?_)
 go_simp
 refine (sound3_any b r8.2 (r4.1, r6.1, r8.1) _ f8).mono ?_
 rintro e w9 ⟨rfl, f9, k9⟩
 generalize e9 : soundS r8.2 (r4.1, r6.1, r8.1) = r9 at f9 ⊢
 have E9 : Hid _ := e9
 clear e9
 have K9 := Kept.trans K8 k9
 have B0_9 := B0_8.kept k9 (by omega)
 have B1_9 := B1_8.kept k9 (by omega)
 have z9 := B1_9.lies
 clear zH
 refine hK.out _ _ B0_9 (fun zH => ?_)
 clear hK K K8 f8 B0_8 B1_8 k9
 refine zK 24 (by kernel_rfl) rfl (fun K hK => ?_)
 have c4_B1_0 : w9.cell? ⟨w.heap.size + 1, 0, none⟩ = some (.int .i64 0) := B1_9.c 0 (zD rfl)
 have c4_B1_1 : w9.cell? ⟨w.heap.size + 1, 1, none⟩ = some (.int .i64 0) := B1_9.c 1 (zD rfl)
 have c4_B1_2 : w9.cell? ⟨w.heap.size + 1, 2, none⟩ = some (.int .i64 0) := B1_9.c 2 (zD rfl)
 have g4_B1_0 := B1_9.f 0 (zD rfl)
 have g4_B1_1 := B1_9.f 1 (zD rfl)
 have g4_B1_2 := B1_9.f 2 (zD rfl)
 go_simp
 clear zH
 refine hK.out _ _ (((B0_9.new _ _ (by omega) _).new _ _ (by omega) _).new _ _ (by omega) _) (fun zH => ?_)
 clear hK K c4_B1_0 c4_B1_1 c4_B1_2 g4_B1_0 g4_B1_1 g4_B1_2
 refine wpAnyH_done (by kernel_rfl) ?_ _
 clear zH
 go_wp2
 have d0 := Arr.c (B1_9.put 0 (zD rfl) (.int .i64 r9.1.1) [.int .i64 r9.1.1, .int .i64 0, .int .i64 0] rfl) 0 (zD rfl)
 have d1 := Arr.c ((B1_9.put 0 (zD rfl) (.int .i64 r9.1.1) [.int .i64 r9.1.1, .int .i64 0, .int .i64 0] rfl).put 1 (zD rfl) (.int .i64 r9.1.2.1) [.int .i64 r9.1.1, .int .i64 r9.1.2.1, .int .i64 0] rfl) 1 (zD rfl)
 have d2 := Arr.c (((B1_9.put 0 (zD rfl) (.int .i64 r9.1.1) [.int .i64 r9.1.1, .int .i64 0, .int .i64 0] rfl).put 1 (zD rfl) (.int .i64 r9.1.2.1) [.int .i64 r9.1.1, .int .i64 r9.1.2.1, .int .i64 0] rfl).put 2 (zD rfl) (.int .i64 r9.1.2.2) [.int .i64 r9.1.1, .int .i64 r9.1.2.1, .int .i64 r9.1.2.2] rfl) 2 (zD rfl)
 refine bodyPost_ret (v := .agg #[.int .i64 r9.1.1, .int .i64 r9.1.2.1, .int .i64 r9.1.2.2]) (by simp [results, Try.results11, go_sem, d0, d1, d2]) rfl ?_
 have hs : qToRodS bad q = (r9.1, r9.2) := by unfold qToRodS; simp only [E1.out, E2.out, E3.out, E4.out, E5.out, E6.out, E7.out, E8.out, E9.out]
 rw [hs]
 exact ⟨rfl, (((f9.new _ _ (by omega) _).new _ _ (by omega) _).new _ _ (by omega) _), (((K9.new _ _ (by omega) _).new _ _ (by omega) _).new _ _ (by omega) _)⟩
end Go.Proofs.Ytooehgijllihdaa
namespace Go.Proofs.Ytooehgijllihdaa
open Go.RowKit
set_option maxRecDepth 100000
set_option maxHeartbeats 20000000
theorem qTurn_any (b : Nat) (bad : Bool) (q : V4) (v : V3) (w : World) (hw : Fl b bad w) :
  Calls Try.prog 6 #[.pointer (some ⟨b, 0, none⟩), .agg #[.int .i64 q.1, .int .i64 q.2.1, .int .i64 q.2.2.1, .int .i64 q.2.2.2], .agg #[.int .i64 v.1, .int .i64 v.2.1, .int .i64 v.2.2]] w fun e w' => e = .returned (.agg #[.int .i64 ((qTurnS bad q v).1.1), .int .i64 ((qTurnS bad q v).1.2.1), .int .i64 ((qTurnS bad q v).1.2.2)]) ∧ Fl b (qTurnS bad q v).2 w' ∧ Kept b w w' := by
 have hl := hw.lies
 go_enter Try.func6, Try.ntmps6
 go_wp2_with fail
 refine (parted_any q _).mono ?_
 rintro e w1 ⟨rfl, k1⟩
 have K1 : Kept b w w1 := Kept.trans ((((Kept.refl b w).al _).al _).al _) (Kept.of_below k1)
 have BF_1 := (((hw.alloc _).alloc _).alloc _).below k1
 have B0_1 := (((Arr_at _ w.heap.size [.int .i64 q.1, .int .i64 q.2.1, .int .i64 q.2.2.1, .int .i64 q.2.2.2] _ (by simp)).alloc _).alloc _).below k1
 have B1_1 := ((Arr_at _ (w.heap.size + 1) [.int .i64 v.1, .int .i64 v.2.1, .int .i64 v.2.2] _ (by simp)).alloc _).below k1
 have B2_1 := (Arr_at _ (w.heap.size + 1 + 1) [.int .i64 0, .int .i64 0, .int .i64 0] _ (by simp)).below k1
 have z1 := B2_1.lies
 clear k1
 have c2_B1_0 : w1.cell? ⟨w.heap.size + 1, 0, none⟩ = some (.int .i64 v.1) := B1_1.c 0 (zD rfl)
 have c2_B1_1 : w1.cell? ⟨w.heap.size + 1, 1, none⟩ = some (.int .i64 v.2.1) := B1_1.c 1 (zD rfl)
 have c2_B1_2 : w1.cell? ⟨w.heap.size + 1, 2, none⟩ = some (.int .i64 v.2.2) := B1_1.c 2 (zD rfl)
 have l2_B1 := B1_1.lies
 go_wp2_with fail
 refine (vCross_any b bad (q.1, q.2.1, q.2.2.1) v _ (BF_1.alloc _)).mono ?_
 rintro e w2 ⟨rfl, f2, k2⟩
 generalize e2 : vCrossS bad (q.1, q.2.1, q.2.2.1) v = r2 at f2 ⊢
 have E2 : Hid _ := e2
 clear e2
 have K2 : Kept b w w2 := Kept.trans (K1.al _) k2
 have B0_2 := (B0_1.alloc _).kept k2 (by omega)
 have B1_2 := (B1_1.alloc _).kept k2 (by omega)
 have B2_2 := (B2_1.alloc _).kept k2 (by omega)
 have B3_2 : Arr w1.heap.size [.int .i64 q.1, .int .i64 q.2.1, .int .i64 q.2.2.1] w2 := (Arr_at _ _ [.int .i64 q.1, .int .i64 q.2.1, .int .i64 q.2.2.1] _ (by simp)).kept k2 (by omega)
 have z2 := B3_2.lies
 clear c2_B1_0 c2_B1_1 c2_B1_2 l2_B1 K1 BF_1 B0_1 B1_1 B2_1 k2
 go_wp2_with fail
 refine (vScale_any b r2.2 r2.1 2199023255552 _ f2).mono ?_
 rintro e w3 ⟨rfl, f3, k3⟩
 generalize e3 : vScaleS r2.2 r2.1 2199023255552 = r3 at f3 ⊢
 have E3 : Hid _ := e3
 clear e3
 have K3 := Kept.trans K2 k3
 have B0_3 := B0_2.kept k3 (by omega)
 have B1_3 := B1_2.kept k3 (by omega)
 have B2_3 := B2_2.kept k3 (by omega)
 have B3_3 := B3_2.kept k3 (by omega)
 have z3 := B3_3.lies
 clear K2 f2 B0_2 B1_2 B2_2 B3_2 k3
 go_wp2_with fail
 refine wp_region_held_drew (S := fun w' => Arr (w.heap.size + 1) [.int .i64 v.1, .int .i64 v.2.1, .int .i64 v.2.2] w' ∧ Arr w3.heap.size [.int .i64 r3.1.1, .int .i64 r3.1.2.1, .int .i64 r3.1.2.2] w' ∧ Arr w1.heap.size [.int .i64 q.1, .int .i64 q.2.1, .int .i64 q.2.2.1] w') (by kernel_rfl) ⟨(B1_3.alloc _).drew, (Arr_at _ _ [.int .i64 r3.1.1, .int .i64 r3.1.2.1, .int .i64 r3.1.2.2] _ (by simp)).drew, (B3_3.alloc _).drew⟩ (fun zH => ?_)
 refine zT 0 rfl (by kernel_rfl) (fun _ _ _ => id) rfl (fun _ _ => by go_simp <;> with_reducible rfl) zH ?_
 simp only [Act.put, zA, zB, zC]
 refine zT 1 rfl (by kernel_rfl) (fun _ _ _ => id) rfl (fun _ _ => by go_simp <;> with_reducible rfl) zH ?_
 simp only [Act.put, zA, zB, zC]
 refine zT 2 rfl (by kernel_rfl) (fun _ _ _ => id) rfl (fun wx hS => by have hc0 : wx.cell? ⟨w.heap.size + 1, 0, none⟩ = some (.int .i64 v.1) := hS.1.c 0 (zD rfl); have hc1 : wx.cell? ⟨w.heap.size + 1, 1, none⟩ = some (.int .i64 v.2.1) := hS.1.c 1 (zD rfl); have hc2 : wx.cell? ⟨w.heap.size + 1, 2, none⟩ = some (.int .i64 v.2.2) := hS.1.c 2 (zD rfl); go_simp <;> with_reducible rfl) zH ?_
 simp only [Act.put, zA, zB, zC]
 refine zT 3 rfl (by kernel_rfl) (fun _ _ _ => id) rfl (fun _ _ => by go_simp <;> with_reducible rfl) zH ?_
 simp only [Act.put, zA, zB, zC]
 refine zT 4 rfl (by kernel_rfl) (fun _ _ _ => id) rfl (fun wx hS => by have hc0 : wx.cell? ⟨w3.heap.size, 0, none⟩ = some (.int .i64 r3.1.1) := hS.2.1.c 0 (zD rfl); have hc1 : wx.cell? ⟨w3.heap.size, 1, none⟩ = some (.int .i64 r3.1.2.1) := hS.2.1.c 1 (zD rfl); have hc2 : wx.cell? ⟨w3.heap.size, 2, none⟩ = some (.int .i64 r3.1.2.2) := hS.2.1.c 2 (zD rfl); go_simp <;> with_reducible rfl) zH ?_
 simp only [Act.put, zA, zB, zC]
 refine zT 5 rfl (by kernel_rfl) (fun _ _ _ => id) rfl (fun _ _ => by go_simp <;> with_reducible rfl) zH ?_
 simp only [Act.put, zA, zB, zC]
 refine zT 8 rfl (by kernel_rfl) (fun _ _ _ => id) rfl (fun _ _ => by go_simp <;> with_reducible rfl) zH ?_
 simp only [Act.put, zA, zB, zC]
 refine zT 9 rfl (by kernel_rfl) (fun _ _ _ => id) rfl (fun wx hS => by have hc0 : wx.cell? ⟨w1.heap.size, 0, none⟩ = some (.int .i64 q.1) := hS.2.2.c 0 (zD rfl); have hc1 : wx.cell? ⟨w1.heap.size, 1, none⟩ = some (.int .i64 q.2.1) := hS.2.2.c 1 (zD rfl); have hc2 : wx.cell? ⟨w1.heap.size, 2, none⟩ = some (.int .i64 q.2.2.1) := hS.2.2.c 2 (zD rfl); go_simp <;> with_reducible rfl) zH ?_
 simp only [Act.put, zA, zB, zC]
 refine zT 10 rfl (by kernel_rfl) (fun _ _ _ => id) rfl (fun wx hS => by have hc0 : wx.cell? ⟨w3.heap.size, 0, none⟩ = some (.int .i64 r3.1.1) := hS.2.1.c 0 (zD rfl); have hc1 : wx.cell? ⟨w3.heap.size, 1, none⟩ = some (.int .i64 r3.1.2.1) := hS.2.1.c 1 (zD rfl); have hc2 : wx.cell? ⟨w3.heap.size, 2, none⟩ = some (.int .i64 r3.1.2.2) := hS.2.1.c 2 (zD rfl); go_simp <;> with_reducible rfl) zH ?_
 simp only [Act.put, zA, zB, zC]
 refine zK 6 (by kernel_rfl) rfl (fun K hK => ?_)
 go_simp
 refine (vScale_any b r3.2 r3.1 q.2.2.2 _ (f3.alloc _).drew).mono ?_
 rintro e w4 ⟨rfl, f4, k4⟩
 generalize e4 : vScaleS r3.2 r3.1 q.2.2.2 = r4 at f4 ⊢
 have E4 : Hid _ := e4
 clear e4
 have K4 : Kept b w w4 := Kept.trans (K3.al _).drew k4
 have B0_4 := (B0_3.alloc _).drew.kept k4 (by omega)
 have B1_4 := (B1_3.alloc _).drew.kept k4 (by omega)
 have B2_4 := (B2_3.alloc _).drew.kept k4 (by omega)
 have B3_4 := (B3_3.alloc _).drew.kept k4 (by omega)
 have B4_4 : Arr w3.heap.size [.int .i64 r3.1.1, .int .i64 r3.1.2.1, .int .i64 r3.1.2.2] w4 := (Arr_at _ _ [.int .i64 r3.1.1, .int .i64 r3.1.2.1, .int .i64 r3.1.2.2] _ (by simp)).drew.kept k4 (by omega)
 have z4 := B4_4.lies
 clear zH
 refine hK.out _ _ ⟨B1_4, B4_4, B3_4⟩ (fun zH => ?_)
 clear hK K K3 f3 B0_3 B1_3 B2_3 B3_3 k4
 refine zK 7 (by kernel_rfl) rfl (fun K hK => ?_)
 go_simp
 refine (vSub_any b r4.2 v r4.1 _ f4).mono ?_
 rintro e w5 ⟨rfl, f5, k5⟩
 generalize e5 : vSubS r4.2 v r4.1 = r5 at f5 ⊢
 have E5 : Hid _ := e5
 clear e5
 have K5 := Kept.trans K4 k5
 have B0_5 := B0_4.kept k5 (by omega)
 have B1_5 := B1_4.kept k5 (by omega)
 have B2_5 := B2_4.kept k5 (by omega)
 have B3_5 := B3_4.kept k5 (by omega)
 have B4_5 := B4_4.kept k5 (by omega)
 have z5 := B4_5.lies
 clear zH
 refine hK.out _ _ ⟨B1_5, B4_5, B3_5⟩ (fun zH => ?_)
 clear hK K K4 f4 B0_4 B1_4 B2_4 B3_4 B4_4 k5
 refine zK 11 (by kernel_rfl) rfl (fun K hK => ?_)
 go_simp
 refine (vCross_any b r5.2 (q.1, q.2.1, q.2.2.1) r3.1 _ f5).mono ?_
 rintro e w6 ⟨rfl, f6, k6⟩
 generalize e6 : vCrossS r5.2 (q.1, q.2.1, q.2.2.1) r3.1 = r6 at f6 ⊢
 have E6 : Hid _ := e6
 clear e6
 have K6 := Kept.trans K5 k6
 have B0_6 := B0_5.kept k6 (by omega)
 have B1_6 := B1_5.kept k6 (by omega)
 have B2_6 := B2_5.kept k6 (by omega)
 have B3_6 := B3_5.kept k6 (by omega)
 have B4_6 := B4_5.kept k6 (by omega)
 have z6 := B4_6.lies
 clear zH
 refine hK.out _ _ ⟨B1_6, B4_6, B3_6⟩ (fun zH => ?_)
 clear hK K K5 f5 B0_5 B1_5 B2_5 B3_5 B4_5 k6
 refine zK 12 (by kernel_rfl) rfl (fun K hK => ?_)
 go_simp
 refine (vAdd_any b r6.2 r5.1 r6.1 _ f6).mono ?_
 rintro e w7 ⟨rfl, f7, k7⟩
 generalize e7 : vAddS r6.2 r5.1 r6.1 = r7 at f7 ⊢
 have E7 : Hid _ := e7
 clear e7
 have K7 := Kept.trans K6 k7
 have B0_7 := B0_6.kept k7 (by omega)
 have B1_7 := B1_6.kept k7 (by omega)
 have B2_7 := B2_6.kept k7 (by omega)
 have B3_7 := B3_6.kept k7 (by omega)
 have B4_7 := B4_6.kept k7 (by omega)
 have z7 := B4_7.lies
 clear zH
 refine hK.out _ _ ⟨B1_7, B4_7, B3_7⟩ (fun zH => ?_)
 clear hK K K6 f6 B0_6 B1_6 B2_6 B3_6 B4_6 k7
 refine zK 13 (by kernel_rfl) rfl (fun K hK => ?_)
 have c5_B2_0 : w7.cell? ⟨w.heap.size + 1 + 1, 0, none⟩ = some (.int .i64 0) := B2_7.c 0 (zD rfl)
 have c5_B2_1 : w7.cell? ⟨w.heap.size + 1 + 1, 1, none⟩ = some (.int .i64 0) := B2_7.c 1 (zD rfl)
 have c5_B2_2 : w7.cell? ⟨w.heap.size + 1 + 1, 2, none⟩ = some (.int .i64 0) := B2_7.c 2 (zD rfl)
 have g5_B2_0 := B2_7.f 0 (zD rfl)
 have g5_B2_1 := B2_7.f 1 (zD rfl)
 have g5_B2_2 := B2_7.f 2 (zD rfl)
 go_simp
 clear zH
 refine hK.out _ _ ⟨(((B1_7.new _ _ (by omega) _).new _ _ (by omega) _).new _ _ (by omega) _), (((B4_7.new _ _ (by omega) _).new _ _ (by omega) _).new _ _ (by omega) _), (((B3_7.new _ _ (by omega) _).new _ _ (by omega) _).new _ _ (by omega) _)⟩ (fun zH => ?_)
 clear hK K c5_B2_0 c5_B2_1 c5_B2_2 g5_B2_0 g5_B2_1 g5_B2_2
 refine wpAnyH_done (by kernel_rfl) ?_ _
 clear zH
 go_wp2
 have d0 := Arr.c (B2_7.put 0 (zD rfl) (.int .i64 r7.1.1) [.int .i64 r7.1.1, .int .i64 0, .int .i64 0] rfl) 0 (zD rfl)
 have d1 := Arr.c ((B2_7.put 0 (zD rfl) (.int .i64 r7.1.1) [.int .i64 r7.1.1, .int .i64 0, .int .i64 0] rfl).put 1 (zD rfl) (.int .i64 r7.1.2.1) [.int .i64 r7.1.1, .int .i64 r7.1.2.1, .int .i64 0] rfl) 1 (zD rfl)
 have d2 := Arr.c (((B2_7.put 0 (zD rfl) (.int .i64 r7.1.1) [.int .i64 r7.1.1, .int .i64 0, .int .i64 0] rfl).put 1 (zD rfl) (.int .i64 r7.1.2.1) [.int .i64 r7.1.1, .int .i64 r7.1.2.1, .int .i64 0] rfl).put 2 (zD rfl) (.int .i64 r7.1.2.2) [.int .i64 r7.1.1, .int .i64 r7.1.2.1, .int .i64 r7.1.2.2] rfl) 2 (zD rfl)
 refine bodyPost_ret (v := .agg #[.int .i64 r7.1.1, .int .i64 r7.1.2.1, .int .i64 r7.1.2.2]) (by simp [results, Try.results6, go_sem, d0, d1, d2]) rfl ?_
 have hs : qTurnS bad q v = (r7.1, r7.2) := by unfold qTurnS; simp only [E2.out, E3.out, E4.out, E5.out, E6.out, E7.out]
 rw [hs]
 exact ⟨rfl, (((f7.new _ _ (by omega) _).new _ _ (by omega) _).new _ _ (by omega) _), (((K7.new _ _ (by omega) _).new _ _ (by omega) _).new _ _ (by omega) _)⟩
end Go.Proofs.Ytooehgijllihdaa
