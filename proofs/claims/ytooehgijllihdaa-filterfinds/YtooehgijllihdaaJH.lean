/- A part. -/
import Derived.Test.YtooehgijllihdaaXAct
import Derived.Test.YtooehgijllihdaaJS
import Derived.Test.YtooehgijllihdaaJD
import Derived.Test.YtooehgijllihdaaJC
import Derived.Test.YtooehgijllihdaaJF
import Derived.Test.YtooehgijllihdaaJA
import Derived.Test.YtooehgijllihdaaJG
import Derived.Test.YtooehgijllihdaaVCode
import Derived.Handy
import Derived.Deep.RegionHeld3
namespace Go.Proofs.Ytooehgijllihdaa
open Go.RowKit
set_option maxRecDepth 100000
set_option maxHeartbeats 20000000
theorem heither_any (i : Nat) (p : Int) (q : Int) (w : World) :
  Calls Try.prog 25 #[.int .i64 (i : Int), .int .i64 p, .int .i64 q] w fun e w' => e = .returned (.int .i64 (heitherP i p q)) ∧ Below w.heap.size w w' := by
 go_enter Try.func25, Try.ntmps25
 by_cases hc1 : (i : Int) < 3
 ·have Hhc1 : Hid ((i : Int) < 3) := hc1
  go_wp2
  go_ret
  have hs : heitherP i p q = p := by unfold heitherP; rw [if_pos (by have := Hhc1.out; omega)]
  rw [hs]
  exact ⟨rfl, (Below.refl w.heap.size w)⟩
 ·have Hhc1 : Hid (¬ (i : Int) < 3) := hc1
  go_wp2
  go_ret
  have hs : heitherP i p q = q := by unfold heitherP; rw [if_neg (by have := Hhc1.out; omega)]
  rw [hs]
  exact ⟨rfl, (Below.refl w.heap.size w)⟩
theorem hparted_x (r : Nat → Int) (w : World) :
  Calls Try.prog 75 #[.agg #[.int .i64 (r 0), .int .i64 (r 1), .int .i64 (r 2), .int .i64 (r 3), .int .i64 (r 4), .int .i64 (r 5)]] w fun e w' => e = .returned (.tuple #[.agg #[.int .i64 (hpartedP r).1.1, .int .i64 (hpartedP r).1.2.1, .int .i64 (hpartedP r).1.2.2], .agg #[.int .i64 (hpartedP r).2.1, .int .i64 (hpartedP r).2.2.1, .int .i64 (hpartedP r).2.2.2]]) ∧ Below w.heap.size w w' := by
 go_enter Try.func75, Try.ntmps75
 have y2_B0 : w.heap.size < w.heap.size + 1 := by omega
 have y3_B0 : w.heap.size < w.heap.size + 1 + 1 := by omega
 have y3_B1 : w.heap.size + 1 < w.heap.size + 1 + 1 := by omega
 go_wp2_with fail
 refine wp_region_held_drew (S := fun w' => Arr w.heap.size [.int .i64 (r 0), .int .i64 (r 1), .int .i64 (r 2), .int .i64 (r 3), .int .i64 (r 4), .int .i64 (r 5)] w') (by kernel_rfl) (((Arr_at _ _ [.int .i64 (r 0), .int .i64 (r 1), .int .i64 (r 2), .int .i64 (r 3), .int .i64 (r 4), .int .i64 (r 5)] _ (by simp)).alloc _).alloc _).drew (fun zH => ?_)
 refine zT 0 rfl (by kernel_rfl) (fun _ _ _ => id) rfl (fun _ _ => by go_simp <;> with_reducible rfl) zH ?_
 simp only [Act.put, zA, zB, zC]
 refine zT 1 rfl (by kernel_rfl) (fun _ _ _ => id) rfl (fun wx hS => by have hc0 : wx.cell? ⟨w.heap.size, 0, none⟩ = some (.int .i64 (r 0)) := hS.c 0 (zD rfl); go_simp <;> with_reducible rfl) zH ?_
 simp only [Act.put, zA, zB, zC]
 refine zT 2 rfl (by kernel_rfl) (fun _ _ _ => id) rfl (fun _ _ => by go_simp <;> with_reducible rfl) zH ?_
 simp only [Act.put, zA, zB, zC]
 refine zT 3 rfl (by kernel_rfl) (fun _ _ _ => id) rfl (fun wx hS => by have hc1 : wx.cell? ⟨w.heap.size, 1, none⟩ = some (.int .i64 (r 1)) := hS.c 1 (zD rfl); go_simp <;> with_reducible rfl) zH ?_
 simp only [Act.put, zA, zB, zC]
 refine zT 4 rfl (by kernel_rfl) (fun _ _ _ => id) rfl (fun _ _ => by go_simp <;> with_reducible rfl) zH ?_
 simp only [Act.put, zA, zB, zC]
 refine zT 5 rfl (by kernel_rfl) (fun _ _ _ => id) rfl (fun wx hS => by have hc2 : wx.cell? ⟨w.heap.size, 2, none⟩ = some (.int .i64 (r 2)) := hS.c 2 (zD rfl); go_simp <;> with_reducible rfl) zH ?_
 simp only [Act.put, zA, zB, zC]
 refine zT 6 rfl (by kernel_rfl) (fun _ _ _ => id) rfl (fun _ _ => by go_simp <;> with_reducible rfl) zH ?_
 simp only [Act.put, zA, zB, zC]
 refine zT 7 rfl (by kernel_rfl) (fun _ _ _ => id) rfl (fun _ _ => by go_simp <;> with_reducible rfl) zH ?_
 simp only [Act.put, zA, zB, zC]
 refine zT 8 rfl (by kernel_rfl) (fun _ _ _ => id) rfl (fun wx hS => by have hc3 : wx.cell? ⟨w.heap.size, 3, none⟩ = some (.int .i64 (r 3)) := hS.c 3 (zD rfl); go_simp <;> with_reducible rfl) zH ?_
 simp only [Act.put, zA, zB, zC]
 refine zT 9 rfl (by kernel_rfl) (fun _ _ _ => id) rfl (fun _ _ => by go_simp <;> with_reducible rfl) zH ?_
 simp only [Act.put, zA, zB, zC]
 refine zT 10 rfl (by kernel_rfl) (fun _ _ _ => id) rfl (fun wx hS => by have hc4 : wx.cell? ⟨w.heap.size, 4, none⟩ = some (.int .i64 (r 4)) := hS.c 4 (zD rfl); go_simp <;> with_reducible rfl) zH ?_
 simp only [Act.put, zA, zB, zC]
 refine zT 11 rfl (by kernel_rfl) (fun _ _ _ => id) rfl (fun _ _ => by go_simp <;> with_reducible rfl) zH ?_
 simp only [Act.put, zA, zB, zC]
 refine zT 12 rfl (by kernel_rfl) (fun _ _ _ => id) rfl (fun wx hS => by have hc5 : wx.cell? ⟨w.heap.size, 5, none⟩ = some (.int .i64 (r 5)) := hS.c 5 (zD rfl); go_simp <;> with_reducible rfl) zH ?_
 simp only [Act.put, zA, zB, zC]
 refine zT 13 rfl (by kernel_rfl) (fun _ _ _ => id) rfl (fun _ _ => by go_simp <;> with_reducible rfl) zH ?_
 simp only [Act.put, zA, zB, zC]
 refine zK 14 (by kernel_rfl) rfl (fun K hK => ?_)
 go_simp
 clear zH
 refine hK.out _ _ (((Arr_at _ _ [.int .i64 (r 0), .int .i64 (r 1), .int .i64 (r 2), .int .i64 (r 3), .int .i64 (r 4), .int .i64 (r 5)] _ (by simp)).alloc _).alloc _).drew (fun zH => ?_)
 clear hK K
 refine zK 15 (by kernel_rfl) rfl (fun K hK => ?_)
 go_simp
 clear zH
 refine hK.out _ _ (((Arr_at _ _ [.int .i64 (r 0), .int .i64 (r 1), .int .i64 (r 2), .int .i64 (r 3), .int .i64 (r 4), .int .i64 (r 5)] _ (by simp)).alloc _).alloc _).drew (fun zH => ?_)
 clear hK K
 refine wpAnyH_done (by kernel_rfl) ?_ _
 clear zH
 go_wp2_with (with_reducible refine post_stop ?_)
 refine Stop.mk ?_
 refine bodyPost_ret (v := .tuple #[.agg #[.int .i64 (r 0), .int .i64 (r 1), .int .i64 (r 2)], .agg #[.int .i64 (r 3), .int .i64 (r 4), .int .i64 (r 5)]]) (by simp [results, Try.results75, go_sem]) rfl ?_
 have hs : hpartedP r = (((r 0), (r 1), (r 2)), ((r 3), (r 4), (r 5))) := rfl
 rw [hs]
 exact ⟨rfl, (Below.drew (bel_al (bel_al (bel_al (Below.refl w.heap.size w) _) _) _))⟩
theorem hparted_any (r : Nat → Int) (w : World) :
  Calls Try.prog 75 #[.agg (row 6 r).toArray] w fun e w' => e = .returned (.tuple #[.agg #[.int .i64 ((hpartedP r).1.1), .int .i64 ((hpartedP r).1.2.1), .int .i64 ((hpartedP r).1.2.2)], .agg #[.int .i64 ((hpartedP r).2.1), .int .i64 ((hpartedP r).2.2.1), .int .i64 ((hpartedP r).2.2.2)]]) ∧ Below w.heap.size w w' := hparted_x r w
theorem hjoined_any (p : V6) (w : World) :
  Calls Try.prog 40 #[.agg #[.int .i64 p.1, .int .i64 p.2.1, .int .i64 p.2.2.1, .int .i64 p.2.2.2.1, .int .i64 p.2.2.2.2.1, .int .i64 p.2.2.2.2.2]] w fun e w' => e = .returned (.agg #[.int .i64 (hjoinedP p).1, .int .i64 (hjoinedP p).2.1, .int .i64 (hjoinedP p).2.2.1, .int .i64 (hjoinedP p).2.2.2.1, .int .i64 (hjoinedP p).2.2.2.2.1, .int .i64 (hjoinedP p).2.2.2.2.2]) ∧ Below w.heap.size w w' := by
 go_enter Try.func40, Try.ntmps40
 have y2_B0 : w.heap.size < w.heap.size + 1 := by omega
 go_wp2_with (with_reducible refine post_stop ?_)
 refine Stop.mk ?_
 refine bodyPost_ret (v := .agg #[.int .i64 p.1, .int .i64 p.2.1, .int .i64 p.2.2.1, .int .i64 p.2.2.2.1, .int .i64 p.2.2.2.2.1, .int .i64 p.2.2.2.2.2]) (results_arr Try.results40 (Arr_at _ _ [.int .i64 p.1, .int .i64 p.2.1, .int .i64 p.2.2.1, .int .i64 p.2.2.2.1, .int .i64 p.2.2.2.2.1, .int .i64 p.2.2.2.2.2] _ (by simp)) rfl (by kernel_rfl) (by kernel_rfl)) rfl ?_
 have hs : hjoinedP p = p := rfl
 rw [hs]
 exact ⟨rfl, (bel_al (bel_al (Below.refl w.heap.size w) _) _)⟩
theorem hSpread_any (b : Nat) (bad : Bool) (g : Nat → Int) (w : World) (hw : Fl b bad w) :
  Calls Try.prog 14 #[.pointer (some ⟨b, 0, none⟩), .agg (row 43 g).toArray] w fun e w' => e = .returned (.int .i64 ((hSpreadS bad g).1)) ∧ Fl b (hSpreadS bad g).2 w' ∧ Kept b w w' := by
 have hl := hw.lies
 go_enter Try.func14, Try.ntmps14
 have y1_BF := hw.lies
 go_wp2_with fail
 refine wp_region_held_drew (S := fun w' => Arr w.heap.size (row 43 g) w') (by kernel_rfl) (Arr_at _ _ (row 43 g) _ (by simp)).drew (fun zH => ?_)
 refine zT 0 rfl (by kernel_rfl) (fun _ _ _ => id) rfl (fun _ _ => by go_simp <;> with_reducible rfl) zH ?_
 simp only [Act.put, zA, zB, zC]
 refine zT 1 rfl (by kernel_rfl) (fun _ _ _ => id) rfl (fun _ _ => by go_simp <;> with_reducible rfl) zH ?_
 simp only [Act.put, zA, zB, zC]
 refine zT 2 rfl (by kernel_rfl) (fun _ _ _ => id) rfl (fun _ _ => by go_simp <;> with_reducible rfl) zH ?_
 simp only [Act.put, zA, zB, zC]
 refine zT 3 rfl (by kernel_rfl) (fun _ _ _ => id) rfl (fun _ _ => by go_simp <;> with_reducible rfl) zH ?_
 simp only [Act.put, zA, zB, zC]
 refine zT 4 rfl (by kernel_rfl) (fun _ _ _ => id) rfl (fun _ _ => by go_simp <;> with_reducible rfl) zH ?_
 simp only [Act.put, zA, zB, zC]
 refine zT 5 rfl (by kernel_rfl) (fun _ _ _ => id) rfl (fun wx hS => by have hc0 : wx.cell? ⟨w.heap.size, 7, none⟩ = some (.int .i64 (g 7)) := row_c hS 7 (by omega); go_simp <;> with_reducible rfl) zH ?_
 simp only [Act.put, zA, zB, zC]
 refine zT 6 rfl (by kernel_rfl) (fun _ _ _ => id) rfl (fun _ _ => by go_simp <;> with_reducible rfl) zH ?_
 simp only [Act.put, zA, zB, zC]
 refine zT 7 rfl (by kernel_rfl) (fun _ _ _ => id) rfl (fun _ _ => by go_simp <;> with_reducible rfl) zH ?_
 simp only [Act.put, zA, zB, zC]
 refine zT 8 rfl (by kernel_rfl) (fun _ _ _ => id) rfl (fun _ _ => by go_simp <;> with_reducible rfl) zH ?_
 simp only [Act.put, zA, zB, zC]
 refine zT 9 rfl (by kernel_rfl) (fun _ _ _ => id) rfl (fun wx hS => by have hc0 : wx.cell? ⟨w.heap.size, 14, none⟩ = some (.int .i64 (g 14)) := row_c hS 14 (by omega); go_simp <;> with_reducible rfl) zH ?_
 simp only [Act.put, zA, zB, zC]
 refine zT 11 rfl (by kernel_rfl) (fun _ _ _ => id) rfl (fun _ _ => by go_simp <;> with_reducible rfl) zH ?_
 simp only [Act.put, zA, zB, zC]
 refine zT 12 rfl (by kernel_rfl) (fun _ _ _ => id) rfl (fun _ _ => by go_simp <;> with_reducible rfl) zH ?_
 simp only [Act.put, zA, zB, zC]
 refine zT 13 rfl (by kernel_rfl) (fun _ _ _ => id) rfl (fun _ _ => by go_simp <;> with_reducible rfl) zH ?_
 simp only [Act.put, zA, zB, zC]
 refine zT 14 rfl (by kernel_rfl) (fun _ _ _ => id) rfl (fun wx hS => by have hc0 : wx.cell? ⟨w.heap.size, 21, none⟩ = some (.int .i64 (g 21)) := row_c hS 21 (by omega); go_simp <;> with_reducible rfl) zH ?_
 simp only [Act.put, zA, zB, zC]
 refine zK 10 (by kernel_rfl) rfl (fun K hK => ?_)
 go_simp
 refine (Add_any b bad (g 7) (g 14) _ (hw.alloc _).drew).mono ?_
 rintro e w1 ⟨rfl, f1, k1⟩
 generalize e1 : addS bad (g 7) (g 14) = r1 at f1 ⊢
 have E1 : Hid _ := e1
 clear e1
 have K1 : Kept b w w1 := Kept.trans ((Kept.refl b w).al _).drew k1
 have B0_1 := (Arr_at _ w.heap.size (row 43 g) _ (by simp)).drew.kept k1 (zG y1_BF)
 have z1 := B0_1.lies
 clear zH
 refine hK.out _ _ B0_1 (fun zH => ?_)
 clear hK K k1
 refine zK 15 (by kernel_rfl) rfl (fun K hK => ?_)
 go_simp
 refine (Add_any b r1.2 r1.1 (g 21) _ f1).mono ?_
 rintro e w2 ⟨rfl, f2, k2⟩
 generalize e2 : addS r1.2 r1.1 (g 21) = r2 at f2 ⊢
 have E2 : Hid _ := e2
 clear e2
 have K2 := Kept.trans K1 k2
 have B0_2 := B0_1.kept k2 (zG y1_BF)
 have z2 := B0_2.lies
 clear zH
 refine hK.out _ _ B0_2 (fun zH => ?_)
 clear hK K K1 f1 B0_1 k2
 refine zT 16 rfl (by kernel_rfl) (fun _ _ _ => id) rfl (fun _ _ => by go_simp <;> with_reducible rfl) zH ?_
 simp only [Act.put, zA, zB, zC]
 refine wpAnyH_done (by kernel_rfl) ?_ _
 clear zH
 go_wp2
 go_ret
 have hs : hSpreadS bad g = (r2.1, r2.2) := by unfold hSpreadS; simp only [E1.out, E2.out]
 rw [hs]
 exact ⟨rfl, f2, K2⟩
theorem hsound_any (b : Nat) (bad : Bool) (g : Nat → Int) (w : World) (hw : Fl b bad w) :
  Calls Try.prog 49 #[.pointer (some ⟨b, 0, none⟩), .agg (row 43 g).toArray] w fun e w' => e = .returned (.agg (row 43 ((hsoundS bad g).1)).toArray) ∧ Fl b (hsoundS bad g).2 w' ∧ Kept b w w' := by
 have hl := hw.lies
 go_enter Try.func49, Try.ntmps49
 have y1_BF := hw.lies
 have y2_BF : b < w.heap.size + 1 := (Nat.lt_succ_of_lt hw.lies)
 have y2_B0 : w.heap.size < w.heap.size + 1 := by omega
 rcases Bool.eq_false_or_eq_true bad with hc1 | hc1
 ·have Hhc1 : Hid (bad = true) := hc1
  have c1_BF := hw.cell
  have l1_BF := hw.lies
  go_wp2_with (refine store_stop rfl (by kernel_rfl) ?_)
  clear c1_BF l1_BF
  refine Stop.mk (store_row (l' := row 43 (fun _ => 0)) rfl rfl rfl rfl (Arr_at _ _ (row 43 (fun _ => 0)) _ (by simp)) (by simp only [row_len]) (by rw [row_len]; kernel_rfl) (row_one _ _) ?_)
  intro w1 B1_1 o1
  have K1 : Kept b w w1 := Kept.off (((Kept.refl b w).al _).al _) o1 (by omega)
  have BF_1 := ((hw.alloc _).alloc _).off o1 (zL y2_BF)
  have z1_B1 := B1_1.lies
  have z1_BF := BF_1.lies
  clear o1
  go_wp2_with (with_reducible refine post_stop ?_)
  refine Stop.mk ?_
  refine bodyPost_ret (v := .agg (row 43 (fun _ => 0)).toArray) (results_arr Try.results49 B1_1 rfl (by kernel_rfl) (by rw [row_len]; kernel_rfl)) rfl ?_
  have hs : hsoundS bad g = ((fun _ => 0), bad) := by unfold hsoundS; rw [if_pos Hhc1.out]
  first | (rw [hs]; exact ⟨rfl, BF_1, K1⟩) | (have hfl := BF_1; rw [Hhc1.out] at hs hfl; rw [hs]; exact ⟨rfl, hfl, K1⟩)
 ·have Hhc1 : Hid (bad = false) := hc1
  have c1_BF := hw.cell
  have l1_BF := hw.lies
  go_wp2_with (first | (refine row_load (ty := 38) rfl rfl rfl ((Arr_at _ _ (row 43 g) _ (by simp)).alloc _) (by kernel_rfl) (by rw [row_len]; kernel_rfl) ?_) | (refine store_stop rfl (by kernel_rfl) ?_))
  clear c1_BF l1_BF
  refine Stop.mk (store_row (l' := row 43 g) rfl rfl rfl rfl (Arr_at _ _ (row 43 (fun _ => 0)) _ (by simp)) (by simp only [row_len]) (by rw [row_len]; kernel_rfl) (row_one _ _) ?_)
  intro w1 B1_1 o1
  have K1 : Kept b w w1 := Kept.off (((Kept.refl b w).al _).al _) o1 (by omega)
  have BF_1 := ((hw.alloc _).alloc _).off o1 (zL y2_BF)
  have B0_1 := ((Arr_at _ w.heap.size (row 43 g) _ (by simp)).alloc _).off o1 (zL y2_B0)
  have z1_B1 := B1_1.lies
  have z1_BF := BF_1.lies
  have z1_B0 := B0_1.lies
  clear o1
  go_wp2_with (with_reducible refine post_stop ?_)
  refine Stop.mk ?_
  refine bodyPost_ret (v := .agg (row 43 g).toArray) (results_arr Try.results49 B1_1 rfl (by kernel_rfl) (by rw [row_len]; kernel_rfl)) rfl ?_
  have hs : hsoundS bad g = (g, bad) := by unfold hsoundS; rw [if_neg (by rw [Hhc1.out]; decide)]
  first | (rw [hs]; exact ⟨rfl, BF_1, K1⟩) | (have hfl := BF_1; rw [Hhc1.out] at hs hfl; rw [hs]; exact ⟨rfl, hfl, K1⟩)
end Go.Proofs.Ytooehgijllihdaa
namespace Go.Proofs.Ytooehgijllihdaa
open Go.RowKit
set_option maxRecDepth 100000
set_option maxHeartbeats 20000000
theorem hStart_any (q : V4) (w : World) :
  Calls Try.prog 7 #[.agg #[.int .i64 q.1, .int .i64 q.2.1, .int .i64 q.2.2.1, .int .i64 q.2.2.2]] w fun e w' => e = .returned (.agg (row 43 (hStartP q)).toArray) ∧ Below w.heap.size w w' := by
 go_enter Try.func7, Try.ntmps7
 have y2_B0 : w.heap.size < w.heap.size + 1 := by omega
 have y3_B0 : w.heap.size < w.heap.size + 1 + 1 := by omega
 have y3_B1 : w.heap.size + 1 < w.heap.size + 1 + 1 := by omega
 go_wp2_with (refine store_stop rfl (by kernel_rfl) ?_)
 refine Stop.mk (store_row (l' := row 43 (guessF q (0, 0, 0) (fun _ => 0))) rfl rfl rfl rfl (Arr_at _ _ (row 43 (fun _ => 0)) _ (by simp)) (by simp only [row_len]) (by rw [row_len]; kernel_rfl) (row_one _ _) ?_)
 intro w1 B2_1 o1
 have K1 : Below w.heap.size w w1 := bel_off (bel_al (bel_al (bel_al (Below.refl w.heap.size w) _) _) _) o1 (by omega)
 have B0_1 := (((Arr_at _ w.heap.size [.int .i64 q.1, .int .i64 q.2.1, .int .i64 q.2.2.1, .int .i64 q.2.2.2] _ (by simp)).alloc _).alloc _).off o1 (zL y3_B0)
 have B1_1 := ((Arr_at _ (w.heap.size + 1) (row 43 (fun _ => 0)) _ (by simp)).alloc _).off o1 (zL y3_B1)
 have z1_B2 := B2_1.lies
 have z1_B0 := B0_1.lies
 have z1_B1 := B1_1.lies
 clear o1
 go_wp2_with fail
 obtain ⟨J0, hJ0⟩ : ∃ J : Nat → Act → World → Prop, Hid (J = fun i a Wl0 => ∀ G_ : Prop, (∀ (s0 : (Nat → Int)) (A0 : Nat → Value), Hid (hStartP_l0 (guessF q (0, 0, 0) (fun _ => 0)) i = s0) → a = { tmps := #[A0 0, A0 1, .pointer (some ⟨w.heap.size + 1, 0, none⟩), .pointer (some ⟨w.heap.size + 1 + 1, 0, none⟩), A0 4, A0 5, A0 6, .int .i64 (i : Int), A0 8, A0 9, A0 10, A0 11, A0 12, A0 13, A0 14, A0 15, A0 16, A0 17, A0 18], defers := [] } → Below w.heap.size w Wl0 → Arr (w.heap.size + 1) (row 43 (fun _ => 0)) Wl0 → Arr (w.heap.size + 1 + 1) (row 43 s0) Wl0 → G_) → G_) := ⟨_, rfl⟩
 refine rounds_up J0 6 ?_ ?_ ?_
 ·refine give_act (fun a_ ea_ => ?_)
  rw [hJ0.out]
  intro G_ hG_
  exact hG_ (guessF q (0, 0, 0) (fun _ => 0)) (zS a_ 0) rfl (by subst ea_; rfl) K1 B1_1 B2_1
 ·intro i a Wl0 hi hI R hR
  rw [hJ0.out] at hI
  refine hI _ ?_
  clear hI
  intro s0 A0 El0 ea Kl0 B1_l0 B2_l0
  subst ea
  have zl0_B1 := B1_l0.lies
  have zl0_B2 := B2_l0.lies
  go_wp2_with fail
  refine wp_region_held_drew (S := fun _ => True) (by kernel_rfl) trivial (fun zH => ?_)
  refine zT 0 rfl (by kernel_rfl) (fun _ _ _ => id) rfl (fun _ _ => by go_simp <;> with_reducible rfl) zH ?_
  simp only [Act.put, zA, zB, zC]
  refine zT 1 rfl (by kernel_rfl) (fun _ _ _ => id) rfl (fun _ _ => by go_simp <;> with_reducible rfl) zH ?_
  simp only [Act.put, zA, zB, zC]
  refine zT 2 rfl (by kernel_rfl) (fun _ _ _ => id) rfl (fun _ _ => by go_simp <;> with_reducible rfl) zH ?_
  simp only [Act.put, zA, zB, zC]
  refine zT 4 rfl (by kernel_rfl) (fun _ _ _ => id) rfl (fun _ _ => by go_simp <;> with_reducible rfl) zH ?_
  simp only [Act.put, zA, zB, zC]
  refine zT 5 rfl (by kernel_rfl) (fun _ _ _ => id) rfl (fun _ _ => by have hi0 : (i : Int) < 6 := (by omega); go_simp <;> with_reducible rfl) zH ?_
  simp only [Act.put, zA, zB, zC]
  refine zK 3 (by kernel_rfl) rfl (fun K hK => ?_)
  go_simp
  refine (heither_any i 17179869184 16777216 _).mono ?_
  rintro e w2 ⟨rfl, k2⟩
  generalize e2 : heitherP i 17179869184 16777216 = r2
  have E2 : Hid _ := e2
  clear e2
  have K2 : Below w.heap.size w w2 := bel_then (Below.drew Kl0) k2
  have B1_2 := B1_l0.drew.below k2
  have B2_2 := B2_l0.drew.below k2
  have z2 := B2_2.lies
  clear zH
  refine hK.out _ _ trivial (fun zH => ?_)
  clear hK K B1_l0 B2_l0 k2
  refine zT 6 rfl (by kernel_rfl) (fun _ _ _ => id) rfl (fun _ _ => by have hi0 : (i : Int) < 6 := (by omega); go_simp <;> with_reducible rfl) zH ?_
  simp only [Act.put, zA, zB, zC]
  refine zK 7 (by kernel_rfl) rfl (fun K hK => ?_)
  have c4_B2_0 : w2.cell? ⟨w.heap.size + 1 + 1, 7 + i * 6 + i, none⟩ = some (.int .i64 (s0 (7 + i * 6 + i))) := row_c B2_2 (7 + i * 6 + i) (by omega)
  have g4_B2_1 := row_f B2_2 (7 + i * 6 + i) (by omega)
  go_simp
  clear zH
  refine hK.out _ _ trivial (fun zH => ?_)
  clear hK K c4_B2_0 g4_B2_1
  refine wpAnyH_done (by kernel_rfl) ?_ _
  clear zH
  go_wp2_with fail
  have hs0 : Hid (hStartP_l0 (guessF q (0, 0, 0) (fun _ => 0)) (i + 1) = (updF s0 (7 + i * 6 + i) r2)) := by show _ = _; rw [hStartP_l0_succ]; unfold hStartP_l0s; simp only [El0.out, E2.out]
  refine give_act (fun a_ ea_ => ?_)
  rw [hJ0.out]
  intro G_ hG_
  exact hG_ (updF s0 (7 + i * 6 + i) r2) (zS a_ 0) hs0 (by subst ea_; rfl) (bel_new K2 _ _ (by omega) _) (B1_2.new (w.heap.size + 1 + 1) (7 + i * 6 + i) (zL y3_B1) (.int .i64 r2)) (row_put B2_2 (7 + i * 6 + i) (by omega) r2)
 ·intro a Wl0 hI R
  rw [hJ0.out] at hI
  refine hI _ ?_
  clear hI hJ0
  intro r3 A0 E3 ea Kl0 B1_l0 B2_l0
  subst ea
  have zl0_B1 := B1_l0.lies
  have zl0_B2 := B2_l0.lies
  go_wp2_with (first | (refine row_load (ty := 38) rfl rfl rfl B2_l0 (by kernel_rfl) (by rw [row_len]; kernel_rfl) ?_) | (refine store_stop rfl (by kernel_rfl) ?_))
  refine Stop.mk (store_row (l' := row 43 r3) rfl rfl rfl rfl B1_l0 (by simp only [row_len]) (by rw [row_len]; kernel_rfl) (row_one _ _) ?_)
  intro w4 B1_4 o4
  have K4 : Below w.heap.size w w4 := bel_off Kl0 o4 (by omega)
  have B2_4 := B2_l0.off o4 (zG y3_B1)
  have z4_B1 := B1_4.lies
  have z4_B2 := B2_4.lies
  clear B1_l0 B2_l0 o4
  go_wp2_with (with_reducible refine post_stop ?_)
  refine Stop.mk ?_
  refine bodyPost_ret (v := .agg (row 43 r3).toArray) (results_arr Try.results7 B1_4 rfl (by kernel_rfl) (by rw [row_len]; kernel_rfl)) rfl ?_
  have hs : hStartP q = r3 := by unfold hStartP; simp only [E3.out]
  rw [hs]
  exact ⟨rfl, K4⟩
end Go.Proofs.Ytooehgijllihdaa
namespace Go.Proofs.Ytooehgijllihdaa
open Go.RowKit
set_option maxRecDepth 100000
set_option maxHeartbeats 20000000
theorem hPoints_any (b : Nat) (bad : Bool) (g : Nat → Int) (w : World) (hw : Fl b bad w) :
  Calls Try.prog 32 #[.pointer (some ⟨b, 0, none⟩), .agg (row 43 g).toArray] w fun e w' => e = .returned (.agg (row 78 ((hPointsS bad g).1)).toArray) ∧ Fl b (hPointsS bad g).2 w' ∧ Kept b w w' := by
 have hl := hw.lies
 go_enter Try.func32, Try.ntmps32
 have y1_BF := hw.lies
 have y2_BF : b < w.heap.size + 1 := (Nat.lt_succ_of_lt hw.lies)
 have y2_B0 : w.heap.size < w.heap.size + 1 := by omega
 go_wp2_with (refine part_load (ty := 36) (M := 36) rfl rfl rfl ((Arr_at _ _ (row 43 g) _ (by simp)).alloc _) (by omega) (by kernel_rfl) (by rw [row_len]; kernel_rfl) ?_)
 refine (hRoot6_any b bad (fun x_ => g (7 + x_)) _ ((hw.alloc _).alloc _)).mono ?_
 rintro e w1 ⟨rfl, f1, k1⟩
 generalize e1 : zRoot6 bad (fun x_ => g (7 + x_)) = r1 at f1 ⊢
 have E1 : Hid _ := e1
 clear e1
 try dsimp only
 have K1 : Kept b w w1 := Kept.trans (((Kept.refl b w).al _).al _) k1
 have B0_1 := ((Arr_at _ w.heap.size (row 43 g) _ (by simp)).alloc _).kept k1 (zG y1_BF)
 have B1_1 := (Arr_at _ (w.heap.size + 1) (row 78 (fun _ => 0)) _ (by simp)).kept k1 (zG y2_BF)
 have z1 := B1_1.lies
 clear k1
 have y3_BF := f1.lies
 have y3_B0 := B0_1.lies
 have y3_B1 := B1_1.lies
 go_wp2_with (refine store_stop rfl (by kernel_rfl) ?_)
 refine Stop.mk (store_row (l' := row 36 r1.1) rfl rfl rfl rfl (Arr_at _ _ (row 36 (fun _ => 0)) _ (by simp)) (by simp only [row_len]) (by rw [row_len]; kernel_rfl) (row_one _ _) ?_)
 intro w2 B2_2 o2
 have K2 : Kept b w w2 := Kept.off (K1.al _) o2 (by omega)
 have BF_2 := (f1.alloc _).off o2 (zL y3_BF)
 have B0_2 := (B0_1.alloc _).off o2 (zL y3_B0)
 have B1_2 := (B1_1.alloc _).off o2 (zL y3_B1)
 have z2_B2 := B2_2.lies
 have z2_BF := BF_2.lies
 have z2_B0 := B0_2.lies
 have z2_B1 := B1_2.lies
 clear K1 f1 B0_1 B1_1 o2
 go_wp2_with fail
 refine (Sqrt_any b r1.2 7696581394432 _ BF_2).mono ?_
 rintro e w3 ⟨rfl, f3, k3⟩
 generalize e3 : sqrtS r1.2 7696581394432 = r3 at f3 ⊢
 have E3 : Hid _ := e3
 clear e3
 try dsimp only
 have K3 := Kept.trans K2 k3
 have B1_3 := B1_2.kept k3 (zG y2_BF)
 have B2_3 := B2_2.kept k3 (zG y3_BF)
 have z3 := B2_3.lies
 clear K2 BF_2 B1_2 B2_2 k3
 have y4_BF := f3.lies
 have y4_B1 := B1_3.lies
 have y4_B2 := B2_3.lies
 go_wp2_with fail
 obtain ⟨J0, hJ0⟩ : ∃ J : Nat → Act → World → Prop, Hid (J = fun k a Wl0 => ∀ G_ : Prop, (∀ (s0 : (Nat → Int) × Bool) (A0 C0 D0 : Nat → Value), Hid (hPointsS_l0 r1 r3 ((fun _ => 0), r3.2) k = s0) → a = { tmps := #[.pointer (some ⟨b, 0, none⟩), A0 1, A0 2, A0 3, .pointer (some ⟨w.heap.size + 1, 0, none⟩), .pointer (some ⟨w1.heap.size, 0, none⟩), .int .i64 r3.1, .pointer (some ⟨w3.heap.size, 0, none⟩), A0 8, A0 9, A0 10, A0 11, A0 12, A0 13, A0 14, A0 15, A0 16, .int .i64 (k : Int), A0 18, A0 19, C0 0, C0 1, C0 2, C0 3, C0 4, C0 5, C0 6, C0 7, C0 8, C0 9, C0 10, C0 11, C0 12, C0 13, C0 14, C0 15, C0 16, C0 17, C0 18, C0 19, D0 0, D0 1, D0 2, D0 3, D0 4, D0 5, D0 6], defers := [] } → Kept b w Wl0 → Fl b s0.2 Wl0 → Arr (w.heap.size + 1) (row 78 (fun _ => 0)) Wl0 → Arr w1.heap.size (row 36 r1.1) Wl0 → Arr w3.heap.size (row 78 s0.1) Wl0 → G_) → G_) := ⟨_, rfl⟩
 refine rounds_up J0 6 ?_ ?_ ?_
 ·refine give_act (fun a_ ea_ => ?_)
  rw [hJ0.out]
  intro G_ hG_
  exact hG_ ((fun _ => 0), r3.2) (zS a_ 0) (zS a_ 20) (zS a_ 40) rfl (by subst ea_; rfl) (K3.al _) (f3.alloc _) (B1_3.alloc _) (B2_3.alloc _) (Arr_at _ _ (row 78 (fun _ => 0)) _ (by simp))
 ·intro k a Wl0 hk hI R hR
  rw [hJ0.out] at hI
  refine hI _ ?_
  clear hI
  intro s0 A0 C0 D0 El0 ea Kl0 BF_l0 B1_l0 B2_l0 B3_l0
  subst ea
  have zl0_BF := BF_l0.lies
  have zl0_B1 := B1_l0.lies
  have zl0_B2 := B2_l0.lies
  have zl0_B3 := B3_l0.lies
  go_wp2_with fail
  obtain ⟨J1, hJ1⟩ : ∃ J : Nat → Act → World → Prop, Hid (J = fun i a Wl1 => ∀ G_ : Prop, (∀ (s1 : (Nat → Int) × Bool) (A1 C1 D1 : Nat → Value), Hid (hPointsS_l1 r1 r3 k (s0.1, s0.2) i = s1) → a = { tmps := #[.pointer (some ⟨b, 0, none⟩), A1 1, A1 2, A1 3, .pointer (some ⟨w.heap.size + 1, 0, none⟩), .pointer (some ⟨w1.heap.size, 0, none⟩), .int .i64 r3.1, .pointer (some ⟨w3.heap.size, 0, none⟩), .int .i64 (k : Int), A1 9, A1 10, A1 11, A1 12, A1 13, A1 14, A1 15, A1 16, .int .i64 (k : Int), A1 18, A1 19, .int .i64 (i : Int), C1 1, C1 2, C1 3, C1 4, C1 5, C1 6, C1 7, C1 8, C1 9, C1 10, C1 11, C1 12, C1 13, C1 14, C1 15, C1 16, C1 17, C1 18, C1 19, D1 0, D1 1, D1 2, D1 3, D1 4, D1 5, D1 6], defers := [] } → Kept b w Wl1 → Fl b s1.2 Wl1 → Arr (w.heap.size + 1) (row 78 (fun _ => 0)) Wl1 → Arr w1.heap.size (row 36 r1.1) Wl1 → Arr w3.heap.size (row 78 s1.1) Wl1 → G_) → G_) := ⟨_, rfl⟩
  refine rounds_up J1 6 ?_ ?_ ?_
  ·refine give_act (fun a_ ea_ => ?_)
   rw [hJ1.out]
   intro G_ hG_
   exact hG_ (s0.1, s0.2) (zS a_ 0) (zS a_ 20) (zS a_ 40) rfl (by subst ea_; rfl) Kl0 BF_l0 B1_l0 B2_l0 B3_l0
  ·intro i a Wl1 hi hI R hR
   rw [hJ1.out] at hI
   refine hI _ ?_
   clear hI
   intro s1 A1 C1 D1 El1 ea Kl1 BF_l1 B1_l1 B2_l1 B3_l1
   subst ea
   have zl1_BF := BF_l1.lies
   have zl1_B1 := B1_l1.lies
   have zl1_B2 := B2_l1.lies
   have zl1_B3 := B3_l1.lies
   have c6_B2_0 : Wl1.cell? ⟨w1.heap.size, i * 6 + k, none⟩ = some (.int .i64 (r1.1 (i * 6 + k))) := row_c B2_l1 (i * 6 + k) (by omega)
   have i6_1 : (i : Int) < 6 := by omega
   have i6_2 : (k : Int) < 6 := by omega
   go_wp2_with fail
   refine (Mul_any b s1.2 r3.1 (r1.1 (i * 6 + k)) _ BF_l1).mono ?_
   rintro e w4 ⟨rfl, f4, k4⟩
   generalize e4 : mulS s1.2 r3.1 (r1.1 (i * 6 + k)) = r4 at f4 ⊢
   have E4 : Hid _ := e4
   clear e4
   try dsimp only
   have K4 : Kept b w w4 := Kept.trans Kl1 k4
   have B1_4 := B1_l1.kept k4 (zG y2_BF)
   have B2_4 := B2_l1.kept k4 (zG y3_BF)
   have B3_4 := B3_l1.kept k4 (zG y4_BF)
   have z4 := B3_4.lies
   clear c6_B2_0 i6_1 i6_2 BF_l1 B1_l1 B2_l1 B3_l1 k4
   go_wp2_with fail
   refine wp_region_held_drew (S := fun _ => True) (by kernel_rfl) trivial (fun zH => ?_)
   refine zT 0 rfl (by kernel_rfl) (fun _ _ _ => id) rfl (fun _ _ => by go_simp <;> with_reducible rfl) zH ?_
   simp only [Act.put, zA, zB, zC]
   refine zT 1 rfl (by kernel_rfl) (fun _ _ _ => id) rfl (fun _ _ => by go_simp <;> with_reducible rfl) zH ?_
   simp only [Act.put, zA, zB, zC]
   rw [IntWalk.i64_in (1 + (k : Int)) (by omega)]
   refine zT 2 rfl (by kernel_rfl) (fun _ _ _ => id) rfl (fun _ _ => by go_simp <;> with_reducible rfl) zH ?_
   simp only [Act.put, zA, zB, zC]
   refine zT 3 rfl (by kernel_rfl) (fun _ _ _ => id) rfl (fun _ _ => by go_simp <;> with_reducible rfl) zH ?_
   simp only [Act.put, zA, zB, zC]
   refine zT 4 rfl (by kernel_rfl) (fun _ _ _ => id) rfl (fun _ _ => by go_simp <;> with_reducible rfl) zH ?_
   simp only [Act.put, zA, zB, zC]
   rw [IntWalk.i64_in (7 + (k : Int)) (by omega)]
   refine zT 5 rfl (by kernel_rfl) (fun _ _ _ => id) rfl (fun _ _ => by go_simp <;> with_reducible rfl) zH ?_
   simp only [Act.put, zA, zB, zC]
   refine zT 6 rfl (by kernel_rfl) (fun _ _ _ => id) rfl (fun _ _ => by go_simp <;> with_reducible rfl) zH ?_
   simp only [Act.put, zA, zB, zC]
   refine zT 7 rfl (by kernel_rfl) (fun _ _ _ => id) rfl (fun _ _ => by go_simp <;> with_reducible rfl) zH ?_
   simp only [Act.put, zA, zB, zC]
   refine zT 8 rfl (by kernel_rfl) (fun _ _ _ => id) rfl (fun _ _ => by go_simp <;> with_reducible rfl) zH ?_
   simp only [Act.put, zA, zB, zC]
   rw [IntWalk.i64_in (-r4.1) (by have hq_ : -4611686018427387904 ≤ r4.1 ∧ r4.1 ≤ 4611686018427387904 := (by rw [← E4.out]; exact partS_rng _ _ _ _); omega)]
   refine zT 9 rfl (by kernel_rfl) (fun _ _ _ => id) rfl (fun _ _ => by have hi0 : (1 + (k : Int)) < 13 := (by omega); have hj0 : 0 ≤ (1 + (k : Int)) := (by omega); have hk0 : ((1 + (k : Int))).toNat = (1 + k) := (by omega); go_simp <;> with_reducible rfl) zH ?_
   simp only [Act.put, zA, zB, zC]
   refine zT 10 rfl (by kernel_rfl) (fun _ _ _ => id) rfl (fun _ _ => by have hi0 : (i : Int) < 6 := (by omega); go_simp <;> with_reducible rfl) zH ?_
   simp only [Act.put, zA, zB, zC]
   refine zT 12 rfl (by kernel_rfl) (fun _ _ _ => id) rfl (fun _ _ => by have hi0 : (7 + (k : Int)) < 13 := (by omega); have hj0 : 0 ≤ (7 + (k : Int)) := (by omega); have hk0 : ((7 + (k : Int))).toNat = (7 + k) := (by omega); go_simp <;> with_reducible rfl) zH ?_
   simp only [Act.put, zA, zB, zC]
   refine zK 11 (by kernel_rfl) rfl (fun K hK => ?_)
   have c8_B3_0 : w4.cell? ⟨w3.heap.size, (1 + k) * 6 + i, none⟩ = some (.int .i64 (s1.1 ((1 + k) * 6 + i))) := row_c B3_4 ((1 + k) * 6 + i) (by omega)
   have g8_B3_1 := row_f B3_4 ((1 + k) * 6 + i) (by omega)
   have q8_2 : -4611686018427387904 ≤ r4.1 ∧ r4.1 ≤ 4611686018427387904 := (by rw [← E4.out]; exact partS_rng _ _ _ _)
   obtain ⟨q8_2a, q8_2b⟩ := q8_2
   go_simp
   clear zH
   refine hK.out _ _ trivial (fun zH => ?_)
   clear hK K c8_B3_0 g8_B3_1 q8_2a q8_2b
   refine zT 13 rfl (by kernel_rfl) (fun _ _ _ => id) rfl (fun _ _ => by have hi0 : (i : Int) < 6 := (by omega); go_simp <;> with_reducible rfl) zH ?_
   simp only [Act.put, zA, zB, zC]
   refine zK 14 (by kernel_rfl) rfl (fun K hK => ?_)
   have c9_B3_0 : w4.cell? ⟨w3.heap.size, (7 + k) * 6 + i, none⟩ = some (.int .i64 (s1.1 ((7 + k) * 6 + i))) := row_c B3_4 ((7 + k) * 6 + i) (by omega)
   have g9_B3_1 := row_f B3_4 ((7 + k) * 6 + i) (by omega)
   go_simp
   clear zH
   refine hK.out _ _ trivial (fun zH => ?_)
   clear hK K c9_B3_0 g9_B3_1
   refine wpAnyH_done (by kernel_rfl) ?_ _
   clear zH
   go_wp2_with fail
   have hs1 : Hid (hPointsS_l1 r1 r3 k (s0.1, s0.2) (i + 1) = ((updF (updF s1.1 ((1 + k) * 6 + i) r4.1) ((7 + k) * 6 + i) (-r4.1)), r4.2)) := by show _ = _; rw [hPointsS_l1_succ]; unfold hPointsS_l1s; simp only [El1.out, E4.out]
   refine give_act (fun a_ ea_ => ?_)
   rw [hJ1.out]
   intro G_ hG_
   exact hG_ ((updF (updF s1.1 ((1 + k) * 6 + i) r4.1) ((7 + k) * 6 + i) (-r4.1)), r4.2) (zS a_ 0) (zS a_ 20) (zS a_ 40) hs1 (by subst ea_; rfl) (((K4.new _ _ (by omega) _).new _ _ (by omega) _).drew) (((f4.new w3.heap.size ((1 + k) * 6 + i) (zL y4_BF) (.int .i64 r4.1)).new w3.heap.size ((7 + k) * 6 + i) (zL y4_BF) (.int .i64 (-r4.1))).drew) (((B1_4.new w3.heap.size ((1 + k) * 6 + i) (zL y4_B1) (.int .i64 r4.1)).new w3.heap.size ((7 + k) * 6 + i) (zL y4_B1) (.int .i64 (-r4.1))).drew) (((B2_4.new w3.heap.size ((1 + k) * 6 + i) (zL y4_B2) (.int .i64 r4.1)).new w3.heap.size ((7 + k) * 6 + i) (zL y4_B2) (.int .i64 (-r4.1))).drew) ((row_put (row_put B3_4 ((1 + k) * 6 + i) (by omega) r4.1) ((7 + k) * 6 + i) (by omega) (-r4.1)).drew)
  ·intro a Wl1 hI R
   rw [hJ1.out] at hI
   refine hI _ ?_
   clear hI hJ1
   intro r5 A1 C1 D1 E5 ea Kl1 BF_l1 B1_l1 B2_l1 B3_l1
   subst ea
   have zl1_BF := BF_l1.lies
   have zl1_B1 := B1_l1.lies
   have zl1_B2 := B2_l1.lies
   have zl1_B3 := B3_l1.lies
   go_wp2_with fail
   have hs0 : Hid (hPointsS_l0 r1 r3 ((fun _ => 0), r3.2) (k + 1) = (r5.1, r5.2)) := by show _ = _; rw [hPointsS_l0_succ]; unfold hPointsS_l0s; simp only [El0.out, E5.out]
   refine give_act (fun a_ ea_ => ?_)
   rw [hJ0.out]
   intro G_ hG_
   exact hG_ (r5.1, r5.2) (zS a_ 0) (zS a_ 20) (zS a_ 40) hs0 (by subst ea_; rfl) Kl1 BF_l1 B1_l1 B2_l1 B3_l1
 ·intro a Wl0 hI R
  rw [hJ0.out] at hI
  refine hI _ ?_
  clear hI hJ0
  intro r4 A0 C0 D0 E4 ea Kl0 BF_l0 B1_l0 B2_l0 B3_l0
  subst ea
  have zl0_BF := BF_l0.lies
  have zl0_B1 := B1_l0.lies
  have zl0_B2 := B2_l0.lies
  have zl0_B3 := B3_l0.lies
  go_wp2_with (first | (refine row_load (ty := 61) rfl rfl rfl B3_l0 (by kernel_rfl) (by rw [row_len]; kernel_rfl) ?_) | (refine store_stop rfl (by kernel_rfl) ?_))
  refine Stop.mk (store_row (l' := row 78 r4.1) rfl rfl rfl rfl B1_l0 (by simp only [row_len]) (by rw [row_len]; kernel_rfl) (row_one _ _) ?_)
  intro w5 B1_5 o5
  have K5 : Kept b w w5 := Kept.off Kl0 o5 (by omega)
  have BF_5 := BF_l0.off o5 (zL y2_BF)
  have B3_5 := B3_l0.off o5 (zG y4_B1)
  have z5_B1 := B1_5.lies
  have z5_BF := BF_5.lies
  have z5_B3 := B3_5.lies
  clear B1_l0 BF_l0 B3_l0 o5
  go_wp2_with (with_reducible refine post_stop ?_)
  refine Stop.mk ?_
  refine bodyPost_ret (v := .agg (row 78 r4.1).toArray) (results_arr Try.results32 B1_5 rfl (by kernel_rfl) (by rw [row_len]; kernel_rfl)) rfl ?_
  have hs : hPointsS bad g = (r4.1, r4.2) := by unfold hPointsS; simp only [E1.out, E3.out, E4.out]
  rw [hs]
  exact ⟨rfl, BF_5, K5⟩
end Go.Proofs.Ytooehgijllihdaa
namespace Go.Proofs.Ytooehgijllihdaa
open Go.RowKit
set_option maxRecDepth 100000
set_option maxHeartbeats 20000000
theorem hattitudes_any (b : Nat) (bad : Bool) (g : Nat → Int) (x : Nat → Int) (w : World) (hw : Fl b bad w) :
  Calls Try.prog 64 #[.pointer (some ⟨b, 0, none⟩), .agg (row 43 g).toArray, .agg (row 78 x).toArray] w fun e w' => e = .returned (.agg (row 52 ((hattitudesS bad g x).1)).toArray) ∧ Fl b (hattitudesS bad g x).2 w' ∧ Kept b w w' := by
 have hl := hw.lies
 go_enter Try.func64, Try.ntmps64
 have y1_BF := hw.lies
 have y2_BF : b < w.heap.size + 1 := (Nat.lt_succ_of_lt hw.lies)
 have y2_B0 : w.heap.size < w.heap.size + 1 := by omega
 have y3_BF : b < w.heap.size + 1 + 1 := (Nat.lt_succ_of_lt (Nat.lt_succ_of_lt hw.lies))
 have y3_B0 : w.heap.size < w.heap.size + 1 + 1 := by omega
 have y3_B1 : w.heap.size + 1 < w.heap.size + 1 + 1 := by omega
 have y4_BF : b < w.heap.size + 1 + 1 + 1 := (Nat.lt_succ_of_lt (Nat.lt_succ_of_lt (Nat.lt_succ_of_lt hw.lies)))
 have y4_B0 : w.heap.size < w.heap.size + 1 + 1 + 1 := by omega
 have y4_B1 : w.heap.size + 1 < w.heap.size + 1 + 1 + 1 := by omega
 have y4_B2 : w.heap.size + 1 + 1 < w.heap.size + 1 + 1 + 1 := by omega
 go_wp2_with (refine row_load (ty := 61) rfl rfl rfl (((Arr_at _ _ (row 78 x) _ (by simp)).alloc _).alloc _) (by kernel_rfl) (by rw [row_len]; kernel_rfl) ?_)
 obtain ⟨J0, hJ0⟩ : ∃ J : Nat → Act → World → Prop, Hid (J = fun k a Wl0 => ∀ G_ : Prop, (∀ (s0 : (Nat → Int) × Bool) (A0 C0 : Nat → Value), Hid (hattitudesS_l0 g x ((fun _ => 0), bad) k = s0) → a = { tmps := #[.pointer (some ⟨b, 0, none⟩), A0 1, A0 2, A0 3, .pointer (some ⟨w.heap.size, 0, none⟩), A0 5, .pointer (some ⟨w.heap.size + 1 + 1, 0, none⟩), .pointer (some ⟨w.heap.size + 1 + 1 + 1, 0, none⟩), A0 8, A0 9, A0 10, A0 11, .agg (row 78 x).toArray, .int .i64 (k : Int), A0 14, A0 15, A0 16, A0 17, A0 18, A0 19, C0 0, C0 1, C0 2, C0 3, C0 4, C0 5, C0 6, C0 7, C0 8, C0 9, C0 10, C0 11, C0 12], defers := [] } → Kept b w Wl0 → Fl b s0.2 Wl0 → Arr w.heap.size (row 43 g) Wl0 → Arr (w.heap.size + 1 + 1) (row 52 (fun _ => 0)) Wl0 → Arr (w.heap.size + 1 + 1 + 1) (row 52 s0.1) Wl0 → G_) → G_) := ⟨_, rfl⟩
 refine rounds_up J0 13 ?_ ?_ ?_
 ·refine give_act (fun a_ ea_ => ?_)
  rw [hJ0.out]
  intro G_ hG_
  exact hG_ ((fun _ => 0), bad) (zS a_ 0) (zS a_ 20) rfl (by subst ea_; rfl) (((((Kept.refl b w).al _).al _).al _).al _) ((((hw.alloc _).alloc _).alloc _).alloc _) ((((Arr_at _ _ (row 43 g) _ (by simp)).alloc _).alloc _).alloc _) ((Arr_at _ _ (row 52 (fun _ => 0)) _ (by simp)).alloc _) (Arr_at _ _ (row 52 (fun _ => 0)) _ (by simp))
 ·intro k a Wl0 hk hI R hR
  rw [hJ0.out] at hI
  refine hI _ ?_
  clear hI
  intro s0 A0 C0 El0 ea Kl0 BF_l0 B0_l0 B2_l0 B3_l0
  subst ea
  have zl0_BF := BF_l0.lies
  have zl0_B0 := B0_l0.lies
  have zl0_B2 := B2_l0.lies
  have zl0_B3 := B3_l0.lies
  have y11_BF := BF_l0.lies
  have y11_B0 := B0_l0.lies
  have y11_B2 := B2_l0.lies
  have y11_B3 := B3_l0.lies
  have i2_0 : (k : Int) < 13 := by omega
  go_wp2_with (refine store_stop rfl (by kernel_rfl) ?_)
  clear i2_0
  refine Stop.mk (store_row (l' := row 6 (fun x_ => x (k * 6 + x_))) rfl rfl rfl rfl (Arr_at _ _ [.int .i64 0, .int .i64 0, .int .i64 0, .int .i64 0, .int .i64 0, .int .i64 0] _ (by simp)) (by rw [row_len]; rfl) (by rw [row_len]; kernel_rfl) (row_one _ _) ?_)
  intro w1 B4_1 o1
  have K1 : Kept b w w1 := Kept.off (Kl0.al _) o1 (by omega)
  have BF_1 := (BF_l0.alloc _).off o1 (zL y11_BF)
  have B0_1 := (B0_l0.alloc _).off o1 (zL y11_B0)
  have B2_1 := (B2_l0.alloc _).off o1 (zL y11_B2)
  have B3_1 := (B3_l0.alloc _).off o1 (zL y11_B3)
  have z1_B4 := B4_1.lies
  have z1_BF := BF_1.lies
  have z1_B0 := B0_1.lies
  have z1_B2 := B2_1.lies
  have z1_B3 := B3_1.lies
  clear BF_l0 B0_l0 B2_l0 B3_l0 o1
  go_wp2_with (refine row_load (ty := 34) rfl rfl rfl B4_1 (by kernel_rfl) (by rw [row_len]; kernel_rfl) ?_)
  refine (hparted_any (fun x_ => x (k * 6 + x_)) _).mono ?_
  rintro e w2 ⟨rfl, k2⟩
  generalize e2 : hpartedP (fun x_ => x (k * 6 + x_)) = r2
  have E2 : Hid _ := e2
  clear e2
  try dsimp only
  have K2 : Kept b w w2 := Kept.trans K1 (Kept.of_below k2)
  have BF_2 := BF_1.below k2
  have B0_2 := B0_1.below k2
  have B2_2 := B2_1.below k2
  have B3_2 := B3_1.below k2
  have B4_2 := B4_1.below k2
  have z2 := B4_2.lies
  clear K1 BF_1 B0_1 B2_1 B3_1 B4_1 k2
  have y12_BF := BF_2.lies
  have y12_B0 := B0_2.lies
  have y12_B2 := B2_2.lies
  have y12_B3 := B3_2.lies
  have y12_B4 := B4_2.lies
  have y13_BF : b < w2.heap.size + 1 := (Nat.lt_succ_of_lt BF_2.lies)
  have y13_B0 : w.heap.size < w2.heap.size + 1 := (Nat.lt_succ_of_lt B0_2.lies)
  have y13_B2 : w.heap.size + 1 + 1 < w2.heap.size + 1 := (Nat.lt_succ_of_lt B2_2.lies)
  have y13_B3 : w.heap.size + 1 + 1 + 1 < w2.heap.size + 1 := (Nat.lt_succ_of_lt B3_2.lies)
  have y13_B4 : Wl0.heap.size < w2.heap.size + 1 := (Nat.lt_succ_of_lt B4_2.lies)
  have y13_B5 : w2.heap.size < w2.heap.size + 1 := by omega
  go_wp2_with fail
  refine wp_region_held_drew (S := fun w' => Arr w2.heap.size [.int .i64 r2.1.1, .int .i64 r2.1.2.1, .int .i64 r2.1.2.2] w' ∧ Arr w.heap.size (row 43 g) w') (by kernel_rfl) ⟨((Arr_at _ _ [.int .i64 r2.1.1, .int .i64 r2.1.2.1, .int .i64 r2.1.2.2] _ (by simp)).alloc _).drew, ((B0_2.alloc _).alloc _).drew⟩ (fun zH => ?_)
  refine zT 0 rfl (by kernel_rfl) (fun _ _ _ => id) rfl (fun _ _ => by go_simp <;> with_reducible rfl) zH ?_
  simp only [Act.put, zA, zB, zC]
  refine zT 1 rfl (by kernel_rfl) (fun _ _ _ => id) rfl (fun _ _ => by go_simp <;> with_reducible rfl) zH ?_
  simp only [Act.put, zA, zB, zC]
  refine zT 2 rfl (by kernel_rfl) (fun _ _ _ => id) rfl (fun _ _ => by go_simp <;> with_reducible rfl) zH ?_
  simp only [Act.put, zA, zB, zC]
  refine zT 3 rfl (by kernel_rfl) (fun _ _ _ => id) rfl (fun wx hS => by have hc0 : wx.cell? ⟨w2.heap.size, 0, none⟩ = some (.int .i64 r2.1.1) := hS.1.c 0 (zD rfl); have hc1 : wx.cell? ⟨w2.heap.size, 1, none⟩ = some (.int .i64 r2.1.2.1) := hS.1.c 1 (zD rfl); have hc2 : wx.cell? ⟨w2.heap.size, 2, none⟩ = some (.int .i64 r2.1.2.2) := hS.1.c 2 (zD rfl); go_simp <;> with_reducible rfl) zH ?_
  simp only [Act.put, zA, zB, zC]
  refine zT 5 rfl (by kernel_rfl) (fun _ _ _ => id) rfl (fun _ _ => by go_simp <;> with_reducible rfl) zH ?_
  simp only [Act.put, zA, zB, zC]
  refine zT 6 rfl (by kernel_rfl) (fun _ _ _ => id) rfl (fun wx hS => by have hc0 : wx.cell? ⟨w.heap.size, 0, none⟩ = some (.int .i64 (g 0)) := row_c hS.2 0 (by omega); have hc1 : wx.cell? ⟨w.heap.size, 1, none⟩ = some (.int .i64 (g 1)) := row_c hS.2 1 (by omega); have hc2 : wx.cell? ⟨w.heap.size, 2, none⟩ = some (.int .i64 (g 2)) := row_c hS.2 2 (by omega); have hc3 : wx.cell? ⟨w.heap.size, 3, none⟩ = some (.int .i64 (g 3)) := row_c hS.2 3 (by omega); go_simp <;> with_reducible rfl) zH ?_
  simp only [Act.put, zA, zB, zC]
  refine zK 4 (by kernel_rfl) rfl (fun K hK => ?_)
  go_simp
  refine (qFromRod_any b s0.2 r2.1 _ ((BF_2.alloc _).alloc _).drew).mono ?_
  rintro e w3 ⟨rfl, f3, k3⟩
  generalize e3 : qFromRodS s0.2 r2.1 = r3 at f3 ⊢
  have E3 : Hid _ := e3
  clear e3
  have K3 : Kept b w w3 := Kept.trans ((K2.al _).al _).drew k3
  have B0_3 := ((B0_2.alloc _).alloc _).drew.kept k3 (zG y1_BF)
  have B2_3 := ((B2_2.alloc _).alloc _).drew.kept k3 (zG y3_BF)
  have B3_3 := ((B3_2.alloc _).alloc _).drew.kept k3 (zG y4_BF)
  have B5_3 := ((Arr_at _ w2.heap.size [.int .i64 r2.1.1, .int .i64 r2.1.2.1, .int .i64 r2.1.2.2] _ (by simp)).alloc _).drew.kept k3 (zG y12_BF)
  have z3 := B5_3.lies
  clear zH
  refine hK.out _ _ ⟨B5_3, B0_3⟩ (fun zH => ?_)
  clear hK K K2 BF_2 B0_2 B2_2 B3_2 k3
  refine zK 7 (by kernel_rfl) rfl (fun K hK => ?_)
  go_simp
  refine (qMul_any b r3.2 r3.1 ((g 0), (g 1), (g 2), (g 3)) _ f3).mono ?_
  rintro e w4 ⟨rfl, f4, k4⟩
  generalize e4 : qMulS r3.2 r3.1 ((g 0), (g 1), (g 2), (g 3)) = r4 at f4 ⊢
  have E4 : Hid _ := e4
  clear e4
  have K4 := Kept.trans K3 k4
  have B0_4 := B0_3.kept k4 (zG y1_BF)
  have B2_4 := B2_3.kept k4 (zG y3_BF)
  have B3_4 := B3_3.kept k4 (zG y4_BF)
  have B5_4 := B5_3.kept k4 (zG y12_BF)
  have z4 := B5_4.lies
  clear zH
  refine hK.out _ _ ⟨B5_4, B0_4⟩ (fun zH => ?_)
  clear hK K K3 f3 B0_3 B2_3 B3_3 B5_3 k4
  refine zT 8 rfl (by kernel_rfl) (fun _ _ _ => id) rfl (fun _ _ => by have hi0 : (k : Int) < 13 := (by omega); go_simp <;> with_reducible rfl) zH ?_
  simp only [Act.put, zA, zB, zC]
  refine zK 9 (by kernel_rfl) rfl (fun K hK => ?_)
  have c5_B3_0 : w4.cell? ⟨w.heap.size + 1 + 1 + 1, k * 4 + 1, none⟩ = some (.int .i64 (s0.1 (k * 4 + 1))) := row_c B3_4 (k * 4 + 1) (by omega)
  have c5_B3_1 : w4.cell? ⟨w.heap.size + 1 + 1 + 1, k * 4 + 2, none⟩ = some (.int .i64 (s0.1 (k * 4 + 2))) := row_c B3_4 (k * 4 + 2) (by omega)
  have c5_B3_2 : w4.cell? ⟨w.heap.size + 1 + 1 + 1, k * 4 + 3, none⟩ = some (.int .i64 (s0.1 (k * 4 + 3))) := row_c B3_4 (k * 4 + 3) (by omega)
  have c5_B3_3 : w4.cell? ⟨w.heap.size + 1 + 1 + 1, k * 4, none⟩ = some (.int .i64 (s0.1 (k * 4))) := row_c B3_4 (k * 4) (by omega)
  have g5_B3_4 := row_f B3_4 (k * 4 + 1) (by omega)
  have g5_B3_5 := row_f B3_4 (k * 4 + 2) (by omega)
  have g5_B3_6 := row_f B3_4 (k * 4 + 3) (by omega)
  have g5_B3_7 := row_f B3_4 (k * 4) (by omega)
  go_simp
  clear zH
  refine hK.out _ _ ⟨((((B5_4.new (w.heap.size + 1 + 1 + 1) (k * 4) (zG y12_B3) (.int .i64 r4.1.1)).new (w.heap.size + 1 + 1 + 1) (k * 4 + 1) (zG y12_B3) (.int .i64 r4.1.2.1)).new (w.heap.size + 1 + 1 + 1) (k * 4 + 2) (zG y12_B3) (.int .i64 r4.1.2.2.1)).new (w.heap.size + 1 + 1 + 1) (k * 4 + 3) (zG y12_B3) (.int .i64 r4.1.2.2.2)), ((((B0_4.new (w.heap.size + 1 + 1 + 1) (k * 4) (zL y4_B0) (.int .i64 r4.1.1)).new (w.heap.size + 1 + 1 + 1) (k * 4 + 1) (zL y4_B0) (.int .i64 r4.1.2.1)).new (w.heap.size + 1 + 1 + 1) (k * 4 + 2) (zL y4_B0) (.int .i64 r4.1.2.2.1)).new (w.heap.size + 1 + 1 + 1) (k * 4 + 3) (zL y4_B0) (.int .i64 r4.1.2.2.2))⟩ (fun zH => ?_)
  clear hK K c5_B3_0 c5_B3_1 c5_B3_2 c5_B3_3 g5_B3_4 g5_B3_5 g5_B3_6 g5_B3_7
  refine wpAnyH_done (by kernel_rfl) ?_ _
  clear zH
  go_wp2_with fail
  have hs0 : Hid (hattitudesS_l0 g x ((fun _ => 0), bad) (k + 1) = ((updF (updF (updF (updF s0.1 (k * 4) r4.1.1) (k * 4 + 1) r4.1.2.1) (k * 4 + 2) r4.1.2.2.1) (k * 4 + 3) r4.1.2.2.2), r4.2)) := by show _ = _; rw [hattitudesS_l0_succ]; unfold hattitudesS_l0s; simp only [El0.out, E2.out, E3.out, E4.out]
  refine give_act (fun a_ ea_ => ?_)
  rw [hJ0.out]
  intro G_ hG_
  exact hG_ ((updF (updF (updF (updF s0.1 (k * 4) r4.1.1) (k * 4 + 1) r4.1.2.1) (k * 4 + 2) r4.1.2.2.1) (k * 4 + 3) r4.1.2.2.2), r4.2) (zS a_ 0) (zS a_ 20) hs0 (by subst ea_; rfl) ((((K4.new _ _ (by omega) _).new _ _ (by omega) _).new _ _ (by omega) _).new _ _ (by omega) _) ((((f4.new (w.heap.size + 1 + 1 + 1) (k * 4) (zL y4_BF) (.int .i64 r4.1.1)).new (w.heap.size + 1 + 1 + 1) (k * 4 + 1) (zL y4_BF) (.int .i64 r4.1.2.1)).new (w.heap.size + 1 + 1 + 1) (k * 4 + 2) (zL y4_BF) (.int .i64 r4.1.2.2.1)).new (w.heap.size + 1 + 1 + 1) (k * 4 + 3) (zL y4_BF) (.int .i64 r4.1.2.2.2)) ((((B0_4.new (w.heap.size + 1 + 1 + 1) (k * 4) (zL y4_B0) (.int .i64 r4.1.1)).new (w.heap.size + 1 + 1 + 1) (k * 4 + 1) (zL y4_B0) (.int .i64 r4.1.2.1)).new (w.heap.size + 1 + 1 + 1) (k * 4 + 2) (zL y4_B0) (.int .i64 r4.1.2.2.1)).new (w.heap.size + 1 + 1 + 1) (k * 4 + 3) (zL y4_B0) (.int .i64 r4.1.2.2.2)) ((((B2_4.new (w.heap.size + 1 + 1 + 1) (k * 4) (zL y4_B2) (.int .i64 r4.1.1)).new (w.heap.size + 1 + 1 + 1) (k * 4 + 1) (zL y4_B2) (.int .i64 r4.1.2.1)).new (w.heap.size + 1 + 1 + 1) (k * 4 + 2) (zL y4_B2) (.int .i64 r4.1.2.2.1)).new (w.heap.size + 1 + 1 + 1) (k * 4 + 3) (zL y4_B2) (.int .i64 r4.1.2.2.2)) (row_put (row_put (row_put (row_put B3_4 (k * 4) (by omega) r4.1.1) (k * 4 + 1) (by omega) r4.1.2.1) (k * 4 + 2) (by omega) r4.1.2.2.1) (k * 4 + 3) (by omega) r4.1.2.2.2)
 ·intro a Wl0 hI R
  rw [hJ0.out] at hI
  refine hI _ ?_
  clear hI hJ0
  intro r5 A0 C0 E5 ea Kl0 BF_l0 B0_l0 B2_l0 B3_l0
  subst ea
  have zl0_BF := BF_l0.lies
  have zl0_B0 := B0_l0.lies
  have zl0_B2 := B2_l0.lies
  have zl0_B3 := B3_l0.lies
  go_wp2_with (first | (refine row_load (ty := 75) rfl rfl rfl B3_l0 (by kernel_rfl) (by rw [row_len]; kernel_rfl) ?_) | (refine store_stop rfl (by kernel_rfl) ?_))
  refine Stop.mk (store_row (l' := row 52 r5.1) rfl rfl rfl rfl B2_l0 (by simp only [row_len]) (by rw [row_len]; kernel_rfl) (row_one _ _) ?_)
  intro w6 B2_6 o6
  have K6 : Kept b w w6 := Kept.off Kl0 o6 (by omega)
  have BF_6 := BF_l0.off o6 (zL y3_BF)
  have B3_6 := B3_l0.off o6 (zG y4_B2)
  have z6_B2 := B2_6.lies
  have z6_BF := BF_6.lies
  have z6_B3 := B3_6.lies
  clear B2_l0 BF_l0 B3_l0 o6
  go_wp2_with (with_reducible refine post_stop ?_)
  refine Stop.mk ?_
  refine bodyPost_ret (v := .agg (row 52 r5.1).toArray) (results_arr Try.results64 B2_6 rfl (by kernel_rfl) (by rw [row_len]; kernel_rfl)) rfl ?_
  have hs : hattitudesS bad g x = (r5.1, r5.2) := by unfold hattitudesS; simp only [E5.out]
  rw [hs]
  exact ⟨rfl, BF_6, K6⟩
end Go.Proofs.Ytooehgijllihdaa
namespace Go.Proofs.Ytooehgijllihdaa
open Go.RowKit
set_option maxRecDepth 100000
set_option maxHeartbeats 20000000
theorem hmiddle_any (b : Nat) (bad : Bool) (x : Nat → Int) (w : World) (hw : Fl b bad w) :
  Calls Try.prog 66 #[.pointer (some ⟨b, 0, none⟩), .agg (row 13 x).toArray] w fun e w' => e = .returned (.int .i64 ((hmiddleS bad x).1)) ∧ Fl b (hmiddleS bad x).2 w' ∧ Kept b w w' := by
 have hl := hw.lies
 go_enter Try.func66, Try.ntmps66
 have y1_BF := hw.lies
 have c1_B0_0 := row_c (Arr_at w w.heap.size (row 13 x) 94 rfl) 0 (by omega)
 go_wp2_with (refine row_load (ty := 94) rfl rfl rfl (Arr_at _ _ (row 13 x) _ (by simp)) (by kernel_rfl) (by rw [row_len]; kernel_rfl) ?_)
 clear c1_B0_0
 obtain ⟨J0, hJ0⟩ : ∃ J : Nat → Act → World → Prop, Hid (J = fun k a Wl0 => ∀ G_ : Prop, (∀ (s0 : Int × Bool) (A0 C0 : Nat → Value), Hid (hmiddleS_l0 x ((x 0), bad) k = s0) → a = { tmps := #[.pointer (some ⟨b, 0, none⟩), A0 1, A0 2, A0 3, A0 4, .int .i64 s0.1, A0 6, A0 7, A0 8, A0 9, .agg (row 13 x).toArray, .int .i64 (k : Int), A0 12, A0 13, A0 14, A0 15, A0 16, A0 17, A0 18, A0 19, C0 0, C0 1], defers := [] } → Kept b w Wl0 → Fl b s0.2 Wl0 → G_) → G_) := ⟨_, rfl⟩
 refine rounds_up J0 13 ?_ ?_ ?_
 ·refine give_act (fun a_ ea_ => ?_)
  rw [hJ0.out]
  intro G_ hG_
  exact hG_ ((x 0), bad) (zS a_ 0) (zS a_ 20) rfl (by subst ea_; rfl) ((Kept.refl b w).al _) (hw.alloc _)
 ·intro k a Wl0 hk hI R hR
  rw [hJ0.out] at hI
  refine hI _ ?_
  clear hI
  intro s0 A0 C0 El0 ea Kl0 BF_l0
  subst ea
  have zl0_BF := BF_l0.lies
  have i2_0 : (k : Int) < 13 := by omega
  go_wp2_with fail
  refine (Add_any b s0.2 s0.1 (x k) _ BF_l0).mono ?_
  rintro e w1 ⟨rfl, f1, k1⟩
  generalize e1 : addS s0.2 s0.1 (x k) = r1 at f1 ⊢
  have E1 : Hid _ := e1
  clear e1
  try dsimp only
  have K1 : Kept b w w1 := Kept.trans Kl0 k1
  have z1 := K1.size
  clear i2_0 BF_l0 k1
  go_wp2_with fail
  have hs0 : Hid (hmiddleS_l0 x ((x 0), bad) (k + 1) = (r1.1, r1.2)) := by show _ = _; rw [hmiddleS_l0_succ]; unfold hmiddleS_l0s; simp only [El0.out, E1.out]
  refine give_act (fun a_ ea_ => ?_)
  rw [hJ0.out]
  intro G_ hG_
  exact hG_ (r1.1, r1.2) (zS a_ 0) (zS a_ 20) hs0 (by subst ea_; rfl) K1 f1
 ·intro a Wl0 hI R
  rw [hJ0.out] at hI
  refine hI _ ?_
  clear hI hJ0
  intro r2 A0 C0 E2 ea Kl0 BF_l0
  subst ea
  have zl0_BF := BF_l0.lies
  go_wp2_with fail
  refine (Part_any b r2.2 r2.1 1 14 _ BF_l0).mono ?_
  rintro e w3 ⟨rfl, f3, k3⟩
  generalize e3 : partS r2.2 r2.1 1 14 = r3 at f3 ⊢
  have E3 : Hid _ := e3
  clear e3
  try dsimp only
  have K3 : Kept b w w3 := Kept.trans Kl0 k3
  have z3 := K3.size
  clear BF_l0 k3
  go_wp2
  go_ret
  have hs : hmiddleS bad x = (r3.1, r3.2) := by unfold hmiddleS; simp only [E2.out, E3.out]
  rw [hs]
  exact ⟨rfl, f3, K3⟩
end Go.Proofs.Ytooehgijllihdaa
namespace Go.Proofs.Ytooehgijllihdaa
open Go.RowKit
set_option maxRecDepth 100000
set_option maxHeartbeats 20000000
theorem hmean_any (b : Nat) (bad : Bool) (x : Nat → Int) (w : World) (hw : Fl b bad w) :
  Calls Try.prog 35 #[.pointer (some ⟨b, 0, none⟩), .agg (row 78 x).toArray] w fun e w' => e = .returned (.agg (row 6 ((hmeanS bad x).1)).toArray) ∧ Fl b (hmeanS bad x).2 w' ∧ Kept b w w' := by
 have hl := hw.lies
 go_enter Try.func35, Try.ntmps35
 have y1_BF := hw.lies
 have y2_BF : b < w.heap.size + 1 := (Nat.lt_succ_of_lt hw.lies)
 have y2_B0 : w.heap.size < w.heap.size + 1 := by omega
 have y3_BF : b < w.heap.size + 1 + 1 := (Nat.lt_succ_of_lt (Nat.lt_succ_of_lt hw.lies))
 have y3_B0 : w.heap.size < w.heap.size + 1 + 1 := by omega
 have y3_B1 : w.heap.size + 1 < w.heap.size + 1 + 1 := by omega
 go_wp2_with fail
 obtain ⟨J0, hJ0⟩ : ∃ J : Nat → Act → World → Prop, Hid (J = fun i a Wl0 => ∀ G_ : Prop, (∀ (s0 : (Nat → Int) × Bool) (A0 C0 : Nat → Value), Hid (hmeanS_l0 x ((fun _ => 0), bad) i = s0) → a = { tmps := #[.pointer (some ⟨b, 0, none⟩), A0 1, A0 2, .pointer (some ⟨w.heap.size, 0, none⟩), .pointer (some ⟨w.heap.size + 1, 0, none⟩), .pointer (some ⟨w.heap.size + 1 + 1, 0, none⟩), A0 6, A0 7, A0 8, .int .i64 (i : Int), A0 10, A0 11, A0 12, A0 13, A0 14, A0 15, A0 16, A0 17, A0 18, A0 19, C0 0, C0 1, C0 2, C0 3, C0 4, C0 5, C0 6, C0 7, C0 8, C0 9], defers := [] } → Kept b w Wl0 → Fl b s0.2 Wl0 → Arr w.heap.size (row 78 x) Wl0 → Arr (w.heap.size + 1) (row 6 (fun _ => 0)) Wl0 → Arr (w.heap.size + 1 + 1) (row 6 s0.1) Wl0 → G_) → G_) := ⟨_, rfl⟩
 refine rounds_up J0 6 ?_ ?_ ?_
 ·refine give_act (fun a_ ea_ => ?_)
  rw [hJ0.out]
  intro G_ hG_
  exact hG_ ((fun _ => 0), bad) (zS a_ 0) (zS a_ 20) rfl (by subst ea_; rfl) ((((Kept.refl b w).al _).al _).al _) (((hw.alloc _).alloc _).alloc _) (((Arr_at _ _ (row 78 x) _ (by simp)).alloc _).alloc _) ((Arr_at _ _ (row 6 (fun _ => 0)) _ (by simp)).alloc _) (Arr_at _ _ (row 6 (fun _ => 0)) _ (by simp))
 ·intro i a Wl0 hi hI R hR
  rw [hJ0.out] at hI
  refine hI _ ?_
  clear hI
  intro s0 A0 C0 El0 ea Kl0 BF_l0 B0_l0 B1_l0 B2_l0
  subst ea
  have zl0_BF := BF_l0.lies
  have zl0_B0 := B0_l0.lies
  have zl0_B1 := B1_l0.lies
  have zl0_B2 := B2_l0.lies
  have y6_BF := BF_l0.lies
  have y6_B0 := B0_l0.lies
  have y6_B1 := B1_l0.lies
  have y6_B2 := B2_l0.lies
  go_wp2_with fail
  obtain ⟨J1, hJ1⟩ : ∃ J : Nat → Act → World → Prop, Hid (J = fun k a Wl1 => ∀ G_ : Prop, (∀ (s1 : (Nat → Int)) (A1 C1 : Nat → Value), Hid (hmeanS_l1 x i (fun _ => 0) k = s1) → a = { tmps := #[.pointer (some ⟨b, 0, none⟩), A1 1, A1 2, .pointer (some ⟨w.heap.size, 0, none⟩), .pointer (some ⟨w.heap.size + 1, 0, none⟩), .pointer (some ⟨w.heap.size + 1 + 1, 0, none⟩), .int .i64 (i : Int), .pointer (some ⟨Wl0.heap.size, 0, none⟩), A1 8, .int .i64 (i : Int), A1 10, A1 11, .int .i64 (k : Int), A1 13, A1 14, A1 15, A1 16, A1 17, A1 18, A1 19, C1 0, C1 1, C1 2, C1 3, C1 4, C1 5, C1 6, C1 7, C1 8, C1 9], defers := [] } → Kept b w Wl1 → Fl b s0.2 Wl1 → Arr w.heap.size (row 78 x) Wl1 → Arr (w.heap.size + 1) (row 6 (fun _ => 0)) Wl1 → Arr (w.heap.size + 1 + 1) (row 6 s0.1) Wl1 → Arr Wl0.heap.size (row 13 s1) Wl1 → G_) → G_) := ⟨_, rfl⟩
  refine rounds_up J1 13 ?_ ?_ ?_
  ·refine give_act (fun a_ ea_ => ?_)
   rw [hJ1.out]
   intro G_ hG_
   exact hG_ (fun _ => 0) (zS a_ 0) (zS a_ 20) rfl (by subst ea_; rfl) (Kl0.al _) (BF_l0.alloc _) (B0_l0.alloc _) (B1_l0.alloc _) (B2_l0.alloc _) (Arr_at _ _ (row 13 (fun _ => 0)) _ (by simp))
  ·intro k a Wl1 hk hI R hR
   rw [hJ1.out] at hI
   refine hI _ ?_
   clear hI
   intro s1 A1 C1 El1 ea Kl1 BF_l1 B0_l1 B1_l1 B2_l1 B3_l1
   subst ea
   have zl1_BF := BF_l1.lies
   have zl1_B0 := B0_l1.lies
   have zl1_B1 := B1_l1.lies
   have zl1_B2 := B2_l1.lies
   have zl1_B3 := B3_l1.lies
   have c3_B0_0 : Wl1.cell? ⟨w.heap.size, k * 6 + i, none⟩ = some (.int .i64 (x (k * 6 + i))) := row_c B0_l1 (k * 6 + i) (by omega)
   have c3_B3_1 : Wl1.cell? ⟨Wl0.heap.size, k, none⟩ = some (.int .i64 (s1 k)) := row_c B3_l1 k (by omega)
   have g3_B3_2 := row_f B3_l1 k (by omega)
   have i3_3 : (i : Int) < 6 := by omega
   have i3_4 : (k : Int) < 13 := by omega
   go_wp2_with fail
   clear c3_B0_0 c3_B3_1 g3_B3_2 i3_3 i3_4
   have hs1 : Hid (hmeanS_l1 x i (fun _ => 0) (k + 1) = (updF s1 k (x (k * 6 + i)))) := by show _ = _; rw [hmeanS_l1_succ]; unfold hmeanS_l1s; simp only [El1.out]
   refine give_act (fun a_ ea_ => ?_)
   rw [hJ1.out]
   intro G_ hG_
   exact hG_ (updF s1 k (x (k * 6 + i))) (zS a_ 0) (zS a_ 20) hs1 (by subst ea_; rfl) (Kl1.new _ _ (by omega) _) (BF_l1.new Wl0.heap.size k (zL y6_BF) (.int .i64 (x (k * 6 + i)))) (B0_l1.new Wl0.heap.size k (zL y6_B0) (.int .i64 (x (k * 6 + i)))) (B1_l1.new Wl0.heap.size k (zL y6_B1) (.int .i64 (x (k * 6 + i)))) (B2_l1.new Wl0.heap.size k (zL y6_B2) (.int .i64 (x (k * 6 + i)))) (row_put B3_l1 k (by omega) (x (k * 6 + i)))
  ·intro a Wl1 hI R
   rw [hJ1.out] at hI
   refine hI _ ?_
   clear hI hJ1
   intro r1 A1 C1 E1 ea Kl1 BF_l1 B0_l1 B1_l1 B2_l1 B3_l1
   subst ea
   have zl1_BF := BF_l1.lies
   have zl1_B0 := B0_l1.lies
   have zl1_B1 := B1_l1.lies
   have zl1_B2 := B2_l1.lies
   have zl1_B3 := B3_l1.lies
   go_wp2_with (refine row_load (ty := 94) rfl rfl rfl B3_l1 (by kernel_rfl) (by rw [row_len]; kernel_rfl) ?_)
   refine (hmiddle_any b s0.2 r1 _ BF_l1).mono ?_
   rintro e w2 ⟨rfl, f2, k2⟩
   generalize e2 : hmiddleS s0.2 r1 = r2 at f2 ⊢
   have E2 : Hid _ := e2
   clear e2
   try dsimp only
   have K2 : Kept b w w2 := Kept.trans Kl1 k2
   have B0_2 := B0_l1.kept k2 (zG y1_BF)
   have B1_2 := B1_l1.kept k2 (zG y2_BF)
   have B2_2 := B2_l1.kept k2 (zG y3_BF)
   have B3_2 := B3_l1.kept k2 (zG y6_BF)
   have z2 := B3_2.lies
   clear BF_l1 B0_l1 B1_l1 B2_l1 B3_l1 k2
   have c5_B2_0 : w2.cell? ⟨w.heap.size + 1 + 1, i, none⟩ = some (.int .i64 (s0.1 i)) := row_c B2_2 i (by omega)
   have g5_B2_1 := row_f B2_2 i (by omega)
   have i5_2 : (i : Int) < 6 := by omega
   go_wp2_with fail
   clear c5_B2_0 g5_B2_1 i5_2
   have hs0 : Hid (hmeanS_l0 x ((fun _ => 0), bad) (i + 1) = ((updF s0.1 i r2.1), r2.2)) := by show _ = _; rw [hmeanS_l0_succ]; unfold hmeanS_l0s; simp only [El0.out, E1.out, E2.out]
   refine give_act (fun a_ ea_ => ?_)
   rw [hJ0.out]
   intro G_ hG_
   exact hG_ ((updF s0.1 i r2.1), r2.2) (zS a_ 0) (zS a_ 20) hs0 (by subst ea_; rfl) (K2.new _ _ (by omega) _) (f2.new (w.heap.size + 1 + 1) i (zL y3_BF) (.int .i64 r2.1)) (B0_2.new (w.heap.size + 1 + 1) i (zL y3_B0) (.int .i64 r2.1)) (B1_2.new (w.heap.size + 1 + 1) i (zL y3_B1) (.int .i64 r2.1)) (row_put B2_2 i (by omega) r2.1)
 ·intro a Wl0 hI R
  rw [hJ0.out] at hI
  refine hI _ ?_
  clear hI hJ0
  intro r1 A0 C0 E1 ea Kl0 BF_l0 B0_l0 B1_l0 B2_l0
  subst ea
  have zl0_BF := BF_l0.lies
  have zl0_B0 := B0_l0.lies
  have zl0_B1 := B1_l0.lies
  have zl0_B2 := B2_l0.lies
  go_wp2_with (first | (refine row_load (ty := 34) rfl rfl rfl B2_l0 (by kernel_rfl) (by rw [row_len]; kernel_rfl) ?_) | (refine store_stop rfl (by kernel_rfl) ?_))
  refine Stop.mk (store_row (l' := row 6 r1.1) rfl rfl rfl rfl B1_l0 (by simp only [row_len]) (by rw [row_len]; kernel_rfl) (row_one _ _) ?_)
  intro w2 B1_2 o2
  have K2 : Kept b w w2 := Kept.off Kl0 o2 (by omega)
  have BF_2 := BF_l0.off o2 (zL y2_BF)
  have B2_2 := B2_l0.off o2 (zG y3_B1)
  have z2_B1 := B1_2.lies
  have z2_BF := BF_2.lies
  have z2_B2 := B2_2.lies
  clear B1_l0 BF_l0 B2_l0 o2
  go_wp2_with (with_reducible refine post_stop ?_)
  refine Stop.mk ?_
  refine bodyPost_ret (v := .agg (row 6 r1.1).toArray) (results_arr Try.results35 B1_2 rfl (by kernel_rfl) (by rw [row_len]; kernel_rfl)) rfl ?_
  have hs : hmeanS bad x = (r1.1, r1.2) := by unfold hmeanS; simp only [E1.out]
  rw [hs]
  exact ⟨rfl, BF_2, K2⟩
end Go.Proofs.Ytooehgijllihdaa
namespace Go.Proofs.Ytooehgijllihdaa
open Go.RowKit
set_option maxRecDepth 100000
set_option maxHeartbeats 20000000
theorem hless_any (b : Nat) (bad : Bool) (p : Nat → Int) (q : Nat → Int) (w : World) (hw : Fl b bad w) :
  Calls Try.prog 39 #[.pointer (some ⟨b, 0, none⟩), .agg (row 6 p).toArray, .agg (row 6 q).toArray] w fun e w' => e = .returned (.agg (row 6 ((hlessS bad p q).1)).toArray) ∧ Fl b (hlessS bad p q).2 w' ∧ Kept b w w' := by
 have hl := hw.lies
 go_enter Try.func39, Try.ntmps39
 have y1_BF := hw.lies
 have y2_BF : b < w.heap.size + 1 := (Nat.lt_succ_of_lt hw.lies)
 have y2_B0 : w.heap.size < w.heap.size + 1 := by omega
 have y3_BF : b < w.heap.size + 1 + 1 := (Nat.lt_succ_of_lt (Nat.lt_succ_of_lt hw.lies))
 have y3_B0 : w.heap.size < w.heap.size + 1 + 1 := by omega
 have y3_B1 : w.heap.size + 1 < w.heap.size + 1 + 1 := by omega
 go_wp2_with fail
 obtain ⟨J0, hJ0⟩ : ∃ J : Nat → Act → World → Prop, Hid (J = fun i a Wl0 => ∀ G_ : Prop, (∀ (s0 : (Nat → Int) × Bool) (A0 C0 : Nat → Value), Hid (hlessS_l0 q (p, bad) i = s0) → a = { tmps := #[.pointer (some ⟨b, 0, none⟩), A0 1, A0 2, A0 3, .pointer (some ⟨w.heap.size, 0, none⟩), .pointer (some ⟨w.heap.size + 1, 0, none⟩), .pointer (some ⟨w.heap.size + 1 + 1, 0, none⟩), A0 7, .int .i64 (i : Int), A0 9, A0 10, A0 11, A0 12, A0 13, A0 14, A0 15, A0 16, A0 17, A0 18, A0 19, C0 0, C0 1, C0 2], defers := [] } → Kept b w Wl0 → Fl b s0.2 Wl0 → Arr w.heap.size (row 6 s0.1) Wl0 → Arr (w.heap.size + 1) (row 6 q) Wl0 → Arr (w.heap.size + 1 + 1) (row 6 (fun _ => 0)) Wl0 → G_) → G_) := ⟨_, rfl⟩
 refine rounds_up J0 6 ?_ ?_ ?_
 ·refine give_act (fun a_ ea_ => ?_)
  rw [hJ0.out]
  intro G_ hG_
  exact hG_ (p, bad) (zS a_ 0) (zS a_ 20) rfl (by subst ea_; rfl) ((((Kept.refl b w).al _).al _).al _) (((hw.alloc _).alloc _).alloc _) (((Arr_at _ _ (row 6 p) _ (by simp)).alloc _).alloc _) ((Arr_at _ _ (row 6 q) _ (by simp)).alloc _) (Arr_at _ _ (row 6 (fun _ => 0)) _ (by simp))
 ·intro i a Wl0 hi hI R hR
  rw [hJ0.out] at hI
  refine hI _ ?_
  clear hI
  intro s0 A0 C0 El0 ea Kl0 BF_l0 B0_l0 B1_l0 B2_l0
  subst ea
  have zl0_BF := BF_l0.lies
  have zl0_B0 := B0_l0.lies
  have zl0_B1 := B1_l0.lies
  have zl0_B2 := B2_l0.lies
  go_wp2_with fail
  refine wp_region_held_drew (S := fun w' => NearR w.heap.size 6 s0.1 i w' ∧ Arr (w.heap.size + 1) (row 6 q) w') (by kernel_rfl) ⟨(NearR.same B0_l0.drew), B1_l0.drew⟩ (fun zH => ?_)
  refine zT 0 rfl (by kernel_rfl) (fun _ _ _ => id) rfl (fun _ _ => by go_simp <;> with_reducible rfl) zH ?_
  simp only [Act.put, zA, zB, zC]
  refine zT 1 rfl (by kernel_rfl) (fun _ _ _ => id) rfl (fun _ _ => by go_simp <;> with_reducible rfl) zH ?_
  simp only [Act.put, zA, zB, zC]
  refine zT 2 rfl (by kernel_rfl) (fun _ _ _ => id) rfl (fun _ _ => by go_simp <;> with_reducible rfl) zH ?_
  simp only [Act.put, zA, zB, zC]
  refine zT 3 rfl (by kernel_rfl) (fun _ _ _ => id) rfl (fun _ _ => by have hi0 : (i : Int) < 6 := (by omega); go_simp <;> with_reducible rfl) zH ?_
  simp only [Act.put, zA, zB, zC]
  refine zT 5 rfl (by kernel_rfl) (fun _ _ _ => id) rfl (fun _ _ => by go_simp <;> with_reducible rfl) zH ?_
  simp only [Act.put, zA, zB, zC]
  refine zT 6 rfl (by kernel_rfl) (fun _ _ _ => id) rfl (fun _ _ => by have hi0 : (i : Int) < 6 := (by omega); go_simp <;> with_reducible rfl) zH ?_
  simp only [Act.put, zA, zB, zC]
  refine zT 7 rfl (by kernel_rfl) (fun _ _ _ => id) rfl (fun wx hS => by have hc0 : wx.cell? ⟨w.heap.size + 1, i, none⟩ = some (.int .i64 (q i)) := row_c hS.2 i (by omega); go_simp <;> with_reducible rfl) zH ?_
  simp only [Act.put, zA, zB, zC]
  refine zK 4 (by kernel_rfl) rfl (fun K hK => ?_)
  have c3_B0_0 : Wl0.cell? ⟨w.heap.size, i, none⟩ = some (.int .i64 (s0.1 i)) := row_c B0_l0 i (by omega)
  go_simp
  clear zH
  refine hK.out _ _ ⟨(NearR.same B0_l0.drew), B1_l0.drew⟩ (fun zH => ?_)
  clear hK K c3_B0_0
  refine zK 8 (by kernel_rfl) rfl (fun K hK => ?_)
  go_simp
  refine (Sub_any b s0.2 (s0.1 i) (q i) _ BF_l0.drew).mono ?_
  rintro e w1 ⟨rfl, f1, k1⟩
  generalize e1 : subS s0.2 (s0.1 i) (q i) = r1 at f1 ⊢
  have E1 : Hid _ := e1
  clear e1
  have K1 : Kept b w w1 := Kept.trans Kl0.drew k1
  have B0_1 := B0_l0.drew.kept k1 (zG y1_BF)
  have B1_1 := B1_l0.drew.kept k1 (zG y2_BF)
  have B2_1 := B2_l0.drew.kept k1 (zG y3_BF)
  have z1 := B2_1.lies
  clear zH
  refine hK.out _ _ ⟨(NearR.same B0_1), B1_1⟩ (fun zH => ?_)
  clear hK K BF_l0 B0_l0 B1_l0 B2_l0 k1
  refine zT 9 rfl (by kernel_rfl) (fun _ _ _ => id) rfl (fun _ _ => by have hi0 : (i : Int) < 6 := (by omega); go_simp <;> with_reducible rfl) zH ?_
  simp only [Act.put, zA, zB, zC]
  refine zK 10 (by kernel_rfl) rfl (fun K hK => ?_)
  have c4_B0_0 : w1.cell? ⟨w.heap.size, i, none⟩ = some (.int .i64 (s0.1 i)) := row_c B0_1 i (by omega)
  have g4_B0_1 := row_f B0_1 i (by omega)
  go_simp
  clear zH
  refine hK.out _ _ ⟨(NearR.upd (row_put B0_1 i (by omega) r1.1)), (B1_1.new w.heap.size i (zG y2_B0) (.int .i64 r1.1))⟩ (fun zH => ?_)
  clear hK K c4_B0_0 g4_B0_1
  refine wpAnyH_done (by kernel_rfl) ?_ _
  clear zH
  go_wp2_with fail
  have hs0 : Hid (hlessS_l0 q (p, bad) (i + 1) = ((updF s0.1 i r1.1), r1.2)) := by show _ = _; rw [hlessS_l0_succ]; unfold hlessS_l0s; simp only [El0.out, E1.out]
  refine give_act (fun a_ ea_ => ?_)
  rw [hJ0.out]
  intro G_ hG_
  exact hG_ ((updF s0.1 i r1.1), r1.2) (zS a_ 0) (zS a_ 20) hs0 (by subst ea_; rfl) (K1.new _ _ (by omega) _) (f1.new w.heap.size i (zL y1_BF) (.int .i64 r1.1)) (row_put B0_1 i (by omega) r1.1) (B1_1.new w.heap.size i (zG y2_B0) (.int .i64 r1.1)) (B2_1.new w.heap.size i (zG y3_B0) (.int .i64 r1.1))
 ·intro a Wl0 hI R
  rw [hJ0.out] at hI
  refine hI _ ?_
  clear hI hJ0
  intro r2 A0 C0 E2 ea Kl0 BF_l0 B0_l0 B1_l0 B2_l0
  subst ea
  have zl0_BF := BF_l0.lies
  have zl0_B0 := B0_l0.lies
  have zl0_B1 := B1_l0.lies
  have zl0_B2 := B2_l0.lies
  go_wp2_with (first | (refine row_load (ty := 34) rfl rfl rfl B0_l0 (by kernel_rfl) (by rw [row_len]; kernel_rfl) ?_) | (refine store_stop rfl (by kernel_rfl) ?_))
  refine Stop.mk (store_row (l' := row 6 r2.1) rfl rfl rfl rfl B2_l0 (by simp only [row_len]) (by rw [row_len]; kernel_rfl) (row_one _ _) ?_)
  intro w3 B2_3 o3
  have K3 : Kept b w w3 := Kept.off Kl0 o3 (by omega)
  have BF_3 := BF_l0.off o3 (zL y3_BF)
  have B0_3 := B0_l0.off o3 (zL y3_B0)
  have z3_B2 := B2_3.lies
  have z3_BF := BF_3.lies
  have z3_B0 := B0_3.lies
  clear B2_l0 BF_l0 B0_l0 o3
  go_wp2_with (with_reducible refine post_stop ?_)
  refine Stop.mk ?_
  refine bodyPost_ret (v := .agg (row 6 r2.1).toArray) (results_arr Try.results39 B2_3 rfl (by kernel_rfl) (by rw [row_len]; kernel_rfl)) rfl ?_
  have hs : hlessS bad p q = (r2.1, r2.2) := by unfold hlessS; simp only [E2.out]
  rw [hs]
  exact ⟨rfl, BF_3, K3⟩
end Go.Proofs.Ytooehgijllihdaa
namespace Go.Proofs.Ytooehgijllihdaa
open Go.RowKit
set_option maxRecDepth 100000
set_option maxHeartbeats 20000000
theorem hbeside_any (b : Nat) (bad : Bool) (x : Nat → Int) (m : Nat → Int) (w : World) (hw : Fl b bad w) :
  Calls Try.prog 36 #[.pointer (some ⟨b, 0, none⟩), .agg (row 78 x).toArray, .agg (row 6 m).toArray] w fun e w' => e = .returned (.agg (row 78 ((hbesideS bad x m).1)).toArray) ∧ Fl b (hbesideS bad x m).2 w' ∧ Kept b w w' := by
 have hl := hw.lies
 go_enter Try.func36, Try.ntmps36
 have y1_BF := hw.lies
 have y2_BF : b < w.heap.size + 1 := (Nat.lt_succ_of_lt hw.lies)
 have y2_B0 : w.heap.size < w.heap.size + 1 := by omega
 have y3_BF : b < w.heap.size + 1 + 1 := (Nat.lt_succ_of_lt (Nat.lt_succ_of_lt hw.lies))
 have y3_B0 : w.heap.size < w.heap.size + 1 + 1 := by omega
 have y3_B1 : w.heap.size + 1 < w.heap.size + 1 + 1 := by omega
 go_wp2_with fail
 obtain ⟨J0, hJ0⟩ : ∃ J : Nat → Act → World → Prop, Hid (J = fun k a Wl0 => ∀ G_ : Prop, (∀ (s0 : (Nat → Int) × Bool) (A0 C0 : Nat → Value), Hid (hbesideS_l0 m (x, bad) k = s0) → a = { tmps := #[.pointer (some ⟨b, 0, none⟩), A0 1, A0 2, A0 3, .pointer (some ⟨w.heap.size, 0, none⟩), .pointer (some ⟨w.heap.size + 1, 0, none⟩), .pointer (some ⟨w.heap.size + 1 + 1, 0, none⟩), A0 7, .int .i64 (k : Int), A0 9, A0 10, A0 11, A0 12, A0 13, A0 14, A0 15, A0 16, A0 17, A0 18, A0 19, C0 0], defers := [] } → Kept b w Wl0 → Fl b s0.2 Wl0 → Arr w.heap.size (row 78 s0.1) Wl0 → Arr (w.heap.size + 1) (row 6 m) Wl0 → Arr (w.heap.size + 1 + 1) (row 78 (fun _ => 0)) Wl0 → G_) → G_) := ⟨_, rfl⟩
 refine rounds_up J0 13 ?_ ?_ ?_
 ·refine give_act (fun a_ ea_ => ?_)
  rw [hJ0.out]
  intro G_ hG_
  exact hG_ (x, bad) (zS a_ 0) (zS a_ 20) rfl (by subst ea_; rfl) ((((Kept.refl b w).al _).al _).al _) (((hw.alloc _).alloc _).alloc _) (((Arr_at _ _ (row 78 x) _ (by simp)).alloc _).alloc _) ((Arr_at _ _ (row 6 m) _ (by simp)).alloc _) (Arr_at _ _ (row 78 (fun _ => 0)) _ (by simp))
 ·intro k a Wl0 hk hI R hR
  rw [hJ0.out] at hI
  refine hI _ ?_
  clear hI
  intro s0 A0 C0 El0 ea Kl0 BF_l0 B0_l0 B1_l0 B2_l0
  subst ea
  have zl0_BF := BF_l0.lies
  have zl0_B0 := B0_l0.lies
  have zl0_B1 := B1_l0.lies
  have zl0_B2 := B2_l0.lies
  go_wp2_with fail
  refine wp_region_held_drew (S := fun w' => Arr (w.heap.size + 1) (row 6 m) w') (by kernel_rfl) B1_l0.drew (fun zH => ?_)
  refine zT 0 rfl (by kernel_rfl) (fun _ _ _ => id) rfl (fun _ _ => by go_simp <;> with_reducible rfl) zH ?_
  simp only [Act.put, zA, zB, zC]
  refine zT 1 rfl (by kernel_rfl) (fun _ _ _ => id) rfl (fun _ _ => by go_simp <;> with_reducible rfl) zH ?_
  simp only [Act.put, zA, zB, zC]
  refine zT 2 rfl (by kernel_rfl) (fun _ _ _ => id) rfl (fun _ _ => by go_simp <;> with_reducible rfl) zH ?_
  simp only [Act.put, zA, zB, zC]
  refine zT 3 rfl (by kernel_rfl) (fun _ _ _ => id) rfl (fun _ _ => by have hi0 : (k : Int) < 13 := (by omega); go_simp <;> with_reducible rfl) zH ?_
  simp only [Act.put, zA, zB, zC]
  refine take_at (i := 5) rfl (by kernel_rfl) (by kernel_rfl) (by kernel_rfl) (fun _ _ _ h => h) (row_yield (by rfl) rfl rfl (fun _ hS => hS) (by kernel_rfl) (by rw [row_len]; kernel_rfl)) zH ?_
  simp only [Act.put, zA, zB, zC]
  refine zK 4 (by kernel_rfl) rfl (fun K hK => ?_)
  refine late_part (M := 6) (by rfl) rfl rfl B0_l0.drew (by omega) (by kernel_rfl) (by rw [row_len]; kernel_rfl) ?_
  simp only [Act.put, zA, zB, zC]
  clear zH
  refine hK.out _ _ B1_l0.drew (fun zH => ?_)
  clear hK K
  refine zK 6 (by kernel_rfl) rfl (fun K hK => ?_)
  go_simp
  refine (hless_any b s0.2 (fun x_ => s0.1 (k * 6 + x_)) m _ BF_l0.drew).mono ?_
  rintro e w1 ⟨rfl, f1, k1⟩
  generalize e1 : hlessS s0.2 (fun x_ => s0.1 (k * 6 + x_)) m = r1 at f1 ⊢
  have E1 : Hid _ := e1
  clear e1
  have K1 : Kept b w w1 := Kept.trans Kl0.drew k1
  have B0_1 := B0_l0.drew.kept k1 (zG y1_BF)
  have B1_1 := B1_l0.drew.kept k1 (zG y2_BF)
  have B2_1 := B2_l0.drew.kept k1 (zG y3_BF)
  have z1 := B2_1.lies
  clear zH
  refine hK.out _ _ B1_1 (fun zH => ?_)
  clear hK K BF_l0 B0_l0 B1_l0 B2_l0 k1
  refine zT 7 rfl (by kernel_rfl) (fun _ _ _ => id) rfl (fun _ _ => by have hi0 : (k : Int) < 13 := (by omega); go_simp <;> with_reducible rfl) zH ?_
  simp only [Act.put, zA, zB, zC]
  refine zK 8 (by kernel_rfl) rfl (fun K hK => ?_)
  have c3_B0_0 : w1.cell? ⟨w.heap.size, k * 6 + 1, none⟩ = some (.int .i64 (s0.1 (k * 6 + 1))) := row_c B0_1 (k * 6 + 1) (by omega)
  have c3_B0_1 : w1.cell? ⟨w.heap.size, k * 6 + 2, none⟩ = some (.int .i64 (s0.1 (k * 6 + 2))) := row_c B0_1 (k * 6 + 2) (by omega)
  have c3_B0_2 : w1.cell? ⟨w.heap.size, k * 6 + 3, none⟩ = some (.int .i64 (s0.1 (k * 6 + 3))) := row_c B0_1 (k * 6 + 3) (by omega)
  have c3_B0_3 : w1.cell? ⟨w.heap.size, k * 6 + 4, none⟩ = some (.int .i64 (s0.1 (k * 6 + 4))) := row_c B0_1 (k * 6 + 4) (by omega)
  have c3_B0_4 : w1.cell? ⟨w.heap.size, k * 6 + 5, none⟩ = some (.int .i64 (s0.1 (k * 6 + 5))) := row_c B0_1 (k * 6 + 5) (by omega)
  have c3_B0_5 : w1.cell? ⟨w.heap.size, k * 6, none⟩ = some (.int .i64 (s0.1 (k * 6))) := row_c B0_1 (k * 6) (by omega)
  have g3_B0_6 := row_f B0_1 (k * 6 + 1) (by omega)
  have g3_B0_7 := row_f B0_1 (k * 6 + 2) (by omega)
  have g3_B0_8 := row_f B0_1 (k * 6 + 3) (by omega)
  have g3_B0_9 := row_f B0_1 (k * 6 + 4) (by omega)
  have g3_B0_10 := row_f B0_1 (k * 6 + 5) (by omega)
  have g3_B0_11 := row_f B0_1 (k * 6) (by omega)
  have hrow : (row 6 r1.1).toArray = #[.int .i64 (r1.1 0), .int .i64 (r1.1 1), .int .i64 (r1.1 2), .int .i64 (r1.1 3), .int .i64 (r1.1 4), .int .i64 (r1.1 5)] := rfl
  go_simp
  clear zH
  refine hK.out _ _ ((((((B1_1.new w.heap.size (k * 6) (zG y2_B0) (.int .i64 (r1.1 0))).new w.heap.size (k * 6 + 1) (zG y2_B0) (.int .i64 (r1.1 1))).new w.heap.size (k * 6 + 2) (zG y2_B0) (.int .i64 (r1.1 2))).new w.heap.size (k * 6 + 3) (zG y2_B0) (.int .i64 (r1.1 3))).new w.heap.size (k * 6 + 4) (zG y2_B0) (.int .i64 (r1.1 4))).new w.heap.size (k * 6 + 5) (zG y2_B0) (.int .i64 (r1.1 5))) (fun zH => ?_)
  clear hK K c3_B0_0 c3_B0_1 c3_B0_2 c3_B0_3 c3_B0_4 c3_B0_5 g3_B0_6 g3_B0_7 g3_B0_8 g3_B0_9 g3_B0_10 g3_B0_11 hrow
  refine wpAnyH_done (by kernel_rfl) ?_ _
  clear zH
  go_wp2_with fail
  have hs0 : Hid (hbesideS_l0 m (x, bad) (k + 1) = ((updF (updF (updF (updF (updF (updF s0.1 (k * 6) (r1.1 0)) (k * 6 + 1) (r1.1 1)) (k * 6 + 2) (r1.1 2)) (k * 6 + 3) (r1.1 3)) (k * 6 + 4) (r1.1 4)) (k * 6 + 5) (r1.1 5)), r1.2)) := by show _ = _; rw [hbesideS_l0_succ]; unfold hbesideS_l0s; simp only [El0.out, E1.out]
  refine give_act (fun a_ ea_ => ?_)
  rw [hJ0.out]
  intro G_ hG_
  exact hG_ ((updF (updF (updF (updF (updF (updF s0.1 (k * 6) (r1.1 0)) (k * 6 + 1) (r1.1 1)) (k * 6 + 2) (r1.1 2)) (k * 6 + 3) (r1.1 3)) (k * 6 + 4) (r1.1 4)) (k * 6 + 5) (r1.1 5)), r1.2) (zS a_ 0) (zS a_ 20) hs0 (by subst ea_; rfl) ((((((K1.new _ _ (by omega) _).new _ _ (by omega) _).new _ _ (by omega) _).new _ _ (by omega) _).new _ _ (by omega) _).new _ _ (by omega) _) ((((((f1.new w.heap.size (k * 6) (zL y1_BF) (.int .i64 (r1.1 0))).new w.heap.size (k * 6 + 1) (zL y1_BF) (.int .i64 (r1.1 1))).new w.heap.size (k * 6 + 2) (zL y1_BF) (.int .i64 (r1.1 2))).new w.heap.size (k * 6 + 3) (zL y1_BF) (.int .i64 (r1.1 3))).new w.heap.size (k * 6 + 4) (zL y1_BF) (.int .i64 (r1.1 4))).new w.heap.size (k * 6 + 5) (zL y1_BF) (.int .i64 (r1.1 5))) (row_put (row_put (row_put (row_put (row_put (row_put B0_1 (k * 6) (by omega) (r1.1 0)) (k * 6 + 1) (by omega) (r1.1 1)) (k * 6 + 2) (by omega) (r1.1 2)) (k * 6 + 3) (by omega) (r1.1 3)) (k * 6 + 4) (by omega) (r1.1 4)) (k * 6 + 5) (by omega) (r1.1 5)) ((((((B1_1.new w.heap.size (k * 6) (zG y2_B0) (.int .i64 (r1.1 0))).new w.heap.size (k * 6 + 1) (zG y2_B0) (.int .i64 (r1.1 1))).new w.heap.size (k * 6 + 2) (zG y2_B0) (.int .i64 (r1.1 2))).new w.heap.size (k * 6 + 3) (zG y2_B0) (.int .i64 (r1.1 3))).new w.heap.size (k * 6 + 4) (zG y2_B0) (.int .i64 (r1.1 4))).new w.heap.size (k * 6 + 5) (zG y2_B0) (.int .i64 (r1.1 5))) ((((((B2_1.new w.heap.size (k * 6) (zG y3_B0) (.int .i64 (r1.1 0))).new w.heap.size (k * 6 + 1) (zG y3_B0) (.int .i64 (r1.1 1))).new w.heap.size (k * 6 + 2) (zG y3_B0) (.int .i64 (r1.1 2))).new w.heap.size (k * 6 + 3) (zG y3_B0) (.int .i64 (r1.1 3))).new w.heap.size (k * 6 + 4) (zG y3_B0) (.int .i64 (r1.1 4))).new w.heap.size (k * 6 + 5) (zG y3_B0) (.int .i64 (r1.1 5)))
 ·intro a Wl0 hI R
  rw [hJ0.out] at hI
  refine hI _ ?_
  clear hI hJ0
  intro r2 A0 C0 E2 ea Kl0 BF_l0 B0_l0 B1_l0 B2_l0
  subst ea
  have zl0_BF := BF_l0.lies
  have zl0_B0 := B0_l0.lies
  have zl0_B1 := B1_l0.lies
  have zl0_B2 := B2_l0.lies
  go_wp2_with (first | (refine row_load (ty := 61) rfl rfl rfl B0_l0 (by kernel_rfl) (by rw [row_len]; kernel_rfl) ?_) | (refine store_stop rfl (by kernel_rfl) ?_))
  refine Stop.mk (store_row (l' := row 78 r2.1) rfl rfl rfl rfl B2_l0 (by simp only [row_len]) (by rw [row_len]; kernel_rfl) (row_one _ _) ?_)
  intro w3 B2_3 o3
  have K3 : Kept b w w3 := Kept.off Kl0 o3 (by omega)
  have BF_3 := BF_l0.off o3 (zL y3_BF)
  have B0_3 := B0_l0.off o3 (zL y3_B0)
  have z3_B2 := B2_3.lies
  have z3_BF := BF_3.lies
  have z3_B0 := B0_3.lies
  clear B2_l0 BF_l0 B0_l0 o3
  go_wp2_with (with_reducible refine post_stop ?_)
  refine Stop.mk ?_
  refine bodyPost_ret (v := .agg (row 78 r2.1).toArray) (results_arr Try.results36 B2_3 rfl (by kernel_rfl) (by rw [row_len]; kernel_rfl)) rfl ?_
  have hs : hbesideS bad x m = (r2.1, r2.2) := by unfold hbesideS; simp only [E2.out]
  rw [hs]
  exact ⟨rfl, BF_3, K3⟩
end Go.Proofs.Ytooehgijllihdaa
namespace Go.Proofs.Ytooehgijllihdaa
open Go.RowKit
set_option maxRecDepth 100000
set_option maxHeartbeats 20000000
theorem hproducts_any (b : Nat) (bad : Bool) (x : Nat → Int) (y : Nat → Int) (w : World) (hw : Fl b bad w) :
  Calls Try.prog 38 #[.pointer (some ⟨b, 0, none⟩), .agg (row 78 x).toArray, .agg (row 78 y).toArray] w fun e w' => e = .returned (.agg (row 36 ((hproductsS bad x y).1)).toArray) ∧ Fl b (hproductsS bad x y).2 w' ∧ Kept b w w' := by
 have hl := hw.lies
 go_enter Try.func38, Try.ntmps38
 have y1_BF := hw.lies
 have y2_BF : b < w.heap.size + 1 := (Nat.lt_succ_of_lt hw.lies)
 have y2_B0 : w.heap.size < w.heap.size + 1 := by omega
 have y3_BF : b < w.heap.size + 1 + 1 := (Nat.lt_succ_of_lt (Nat.lt_succ_of_lt hw.lies))
 have y3_B0 : w.heap.size < w.heap.size + 1 + 1 := by omega
 have y3_B1 : w.heap.size + 1 < w.heap.size + 1 + 1 := by omega
 have y4_BF : b < w.heap.size + 1 + 1 + 1 := (Nat.lt_succ_of_lt (Nat.lt_succ_of_lt (Nat.lt_succ_of_lt hw.lies)))
 have y4_B0 : w.heap.size < w.heap.size + 1 + 1 + 1 := by omega
 have y4_B1 : w.heap.size + 1 < w.heap.size + 1 + 1 + 1 := by omega
 have y4_B2 : w.heap.size + 1 + 1 < w.heap.size + 1 + 1 + 1 := by omega
 go_wp2_with fail
 obtain ⟨J0, hJ0⟩ : ∃ J : Nat → Act → World → Prop, Hid (J = fun i a Wl0 => ∀ G_ : Prop, (∀ (s0 : (Nat → Int) × Bool) (A0 C0 D0 : Nat → Value), Hid (hproductsS_l0 x y ((fun _ => 0), bad) i = s0) → a = { tmps := #[.pointer (some ⟨b, 0, none⟩), A0 1, A0 2, A0 3, .pointer (some ⟨w.heap.size, 0, none⟩), .pointer (some ⟨w.heap.size + 1, 0, none⟩), .pointer (some ⟨w.heap.size + 1 + 1, 0, none⟩), .pointer (some ⟨w.heap.size + 1 + 1 + 1, 0, none⟩), A0 8, A0 9, A0 10, A0 11, .int .i64 (i : Int), A0 13, A0 14, A0 15, A0 16, A0 17, A0 18, A0 19, C0 0, C0 1, C0 2, C0 3, C0 4, C0 5, C0 6, C0 7, C0 8, C0 9, C0 10, C0 11, C0 12, C0 13, C0 14, C0 15, C0 16, C0 17, C0 18, C0 19, D0 0, D0 1, D0 2, D0 3, D0 4, D0 5], defers := [] } → Kept b w Wl0 → Fl b s0.2 Wl0 → Arr w.heap.size (row 78 x) Wl0 → Arr (w.heap.size + 1) (row 78 y) Wl0 → Arr (w.heap.size + 1 + 1) (row 36 (fun _ => 0)) Wl0 → Arr (w.heap.size + 1 + 1 + 1) (row 36 s0.1) Wl0 → G_) → G_) := ⟨_, rfl⟩
 refine rounds_up J0 6 ?_ ?_ ?_
 ·refine give_act (fun a_ ea_ => ?_)
  rw [hJ0.out]
  intro G_ hG_
  exact hG_ ((fun _ => 0), bad) (zS a_ 0) (zS a_ 20) (zS a_ 40) rfl (by subst ea_; rfl) (((((Kept.refl b w).al _).al _).al _).al _) ((((hw.alloc _).alloc _).alloc _).alloc _) ((((Arr_at _ _ (row 78 x) _ (by simp)).alloc _).alloc _).alloc _) (((Arr_at _ _ (row 78 y) _ (by simp)).alloc _).alloc _) ((Arr_at _ _ (row 36 (fun _ => 0)) _ (by simp)).alloc _) (Arr_at _ _ (row 36 (fun _ => 0)) _ (by simp))
 ·intro i a Wl0 hi hI R hR
  rw [hJ0.out] at hI
  refine hI _ ?_
  clear hI
  intro s0 A0 C0 D0 El0 ea Kl0 BF_l0 B0_l0 B1_l0 B2_l0 B3_l0
  subst ea
  have zl0_BF := BF_l0.lies
  have zl0_B0 := B0_l0.lies
  have zl0_B1 := B1_l0.lies
  have zl0_B2 := B2_l0.lies
  have zl0_B3 := B3_l0.lies
  go_wp2_with fail
  obtain ⟨J1, hJ1⟩ : ∃ J : Nat → Act → World → Prop, Hid (J = fun j a Wl1 => ∀ G_ : Prop, (∀ (s1 : (Nat → Int) × Bool) (A1 C1 D1 : Nat → Value), Hid (hproductsS_l1 x y i (s0.1, s0.2) j = s1) → a = { tmps := #[.pointer (some ⟨b, 0, none⟩), A1 1, A1 2, A1 3, .pointer (some ⟨w.heap.size, 0, none⟩), .pointer (some ⟨w.heap.size + 1, 0, none⟩), .pointer (some ⟨w.heap.size + 1 + 1, 0, none⟩), .pointer (some ⟨w.heap.size + 1 + 1 + 1, 0, none⟩), .int .i64 (i : Int), A1 9, A1 10, A1 11, .int .i64 (i : Int), A1 13, A1 14, .int .i64 (j : Int), A1 16, A1 17, A1 18, A1 19, C1 0, C1 1, C1 2, C1 3, C1 4, C1 5, C1 6, C1 7, C1 8, C1 9, C1 10, C1 11, C1 12, C1 13, C1 14, C1 15, C1 16, C1 17, C1 18, C1 19, D1 0, D1 1, D1 2, D1 3, D1 4, D1 5], defers := [] } → Kept b w Wl1 → Fl b s1.2 Wl1 → Arr w.heap.size (row 78 x) Wl1 → Arr (w.heap.size + 1) (row 78 y) Wl1 → Arr (w.heap.size + 1 + 1) (row 36 (fun _ => 0)) Wl1 → Arr (w.heap.size + 1 + 1 + 1) (row 36 s1.1) Wl1 → G_) → G_) := ⟨_, rfl⟩
  refine rounds_up J1 6 ?_ ?_ ?_
  ·refine give_act (fun a_ ea_ => ?_)
   rw [hJ1.out]
   intro G_ hG_
   exact hG_ (s0.1, s0.2) (zS a_ 0) (zS a_ 20) (zS a_ 40) rfl (by subst ea_; rfl) Kl0 BF_l0 B0_l0 B1_l0 B2_l0 B3_l0
  ·intro j a Wl1 hj hI R hR
   rw [hJ1.out] at hI
   refine hI _ ?_
   clear hI
   intro s1 A1 C1 D1 El1 ea Kl1 BF_l1 B0_l1 B1_l1 B2_l1 B3_l1
   subst ea
   have zl1_BF := BF_l1.lies
   have zl1_B0 := B0_l1.lies
   have zl1_B1 := B1_l1.lies
   have zl1_B2 := B2_l1.lies
   have zl1_B3 := B3_l1.lies
   have y13_BF := BF_l1.lies
   have y13_B0 := B0_l1.lies
   have y13_B1 := B1_l1.lies
   have y13_B2 := B2_l1.lies
   have y13_B3 := B3_l1.lies
   go_wp2_with fail
   obtain ⟨J2, hJ2⟩ : ∃ J : Nat → Act → World → Prop, Hid (J = fun k a Wl2 => ∀ G_ : Prop, (∀ (s2 : (Nat → Int) × Bool) (A2 C2 D2 : Nat → Value), Hid (hproductsS_l2 x y i j ((fun _ => 0), s1.2) k = s2) → a = { tmps := #[.pointer (some ⟨b, 0, none⟩), A2 1, A2 2, A2 3, .pointer (some ⟨w.heap.size, 0, none⟩), .pointer (some ⟨w.heap.size + 1, 0, none⟩), .pointer (some ⟨w.heap.size + 1 + 1, 0, none⟩), .pointer (some ⟨w.heap.size + 1 + 1 + 1, 0, none⟩), .int .i64 (i : Int), .int .i64 (j : Int), .pointer (some ⟨Wl1.heap.size, 0, none⟩), A2 11, .int .i64 (i : Int), A2 13, A2 14, .int .i64 (j : Int), A2 16, A2 17, .int .i64 (k : Int), A2 19, C2 0, C2 1, C2 2, C2 3, C2 4, C2 5, C2 6, C2 7, C2 8, C2 9, C2 10, C2 11, C2 12, C2 13, C2 14, C2 15, C2 16, C2 17, C2 18, C2 19, D2 0, D2 1, D2 2, D2 3, D2 4, D2 5], defers := [] } → Kept b w Wl2 → Fl b s2.2 Wl2 → Arr w.heap.size (row 78 x) Wl2 → Arr (w.heap.size + 1) (row 78 y) Wl2 → Arr (w.heap.size + 1 + 1) (row 36 (fun _ => 0)) Wl2 → Arr (w.heap.size + 1 + 1 + 1) (row 36 s1.1) Wl2 → Arr Wl1.heap.size (row 13 s2.1) Wl2 → G_) → G_) := ⟨_, rfl⟩
   refine rounds_up J2 13 ?_ ?_ ?_
   ·refine give_act (fun a_ ea_ => ?_)
    rw [hJ2.out]
    intro G_ hG_
    exact hG_ ((fun _ => 0), s1.2) (zS a_ 0) (zS a_ 20) (zS a_ 40) rfl (by subst ea_; rfl) (Kl1.al _) (BF_l1.alloc _) (B0_l1.alloc _) (B1_l1.alloc _) (B2_l1.alloc _) (B3_l1.alloc _) (Arr_at _ _ (row 13 (fun _ => 0)) _ (by simp))
   ·intro k a Wl2 hk hI R hR
    rw [hJ2.out] at hI
    refine hI _ ?_
    clear hI
    intro s2 A2 C2 D2 El2 ea Kl2 BF_l2 B0_l2 B1_l2 B2_l2 B3_l2 B4_l2
    subst ea
    have zl2_BF := BF_l2.lies
    have zl2_B0 := B0_l2.lies
    have zl2_B1 := B1_l2.lies
    have zl2_B2 := B2_l2.lies
    have zl2_B3 := B3_l2.lies
    have zl2_B4 := B4_l2.lies
    go_wp2_with fail
    refine wp_region_held_drew (S := fun w' => Arr w.heap.size (row 78 x) w' ∧ Arr (w.heap.size + 1) (row 78 y) w') (by kernel_rfl) ⟨B0_l2.drew, B1_l2.drew⟩ (fun zH => ?_)
    refine zT 0 rfl (by kernel_rfl) (fun _ _ _ => id) rfl (fun _ _ => by go_simp <;> with_reducible rfl) zH ?_
    simp only [Act.put, zA, zB, zC]
    refine zT 1 rfl (by kernel_rfl) (fun _ _ _ => id) rfl (fun _ _ => by go_simp <;> with_reducible rfl) zH ?_
    simp only [Act.put, zA, zB, zC]
    refine zT 2 rfl (by kernel_rfl) (fun _ _ _ => id) rfl (fun _ _ => by go_simp <;> with_reducible rfl) zH ?_
    simp only [Act.put, zA, zB, zC]
    refine zT 3 rfl (by kernel_rfl) (fun _ _ _ => id) rfl (fun _ _ => by go_simp <;> with_reducible rfl) zH ?_
    simp only [Act.put, zA, zB, zC]
    refine zT 4 rfl (by kernel_rfl) (fun _ _ _ => id) rfl (fun _ _ => by have hi0 : (k : Int) < 13 := (by omega); go_simp <;> with_reducible rfl) zH ?_
    simp only [Act.put, zA, zB, zC]
    refine zT 5 rfl (by kernel_rfl) (fun _ _ _ => id) rfl (fun _ _ => by have hi0 : (i : Int) < 6 := (by omega); go_simp <;> with_reducible rfl) zH ?_
    simp only [Act.put, zA, zB, zC]
    refine zT 6 rfl (by kernel_rfl) (fun _ _ _ => id) rfl (fun wx hS => by have hc0 : wx.cell? ⟨w.heap.size, k * 6 + i, none⟩ = some (.int .i64 (x (k * 6 + i))) := row_c hS.1 (k * 6 + i) (by omega); go_simp <;> with_reducible rfl) zH ?_
    simp only [Act.put, zA, zB, zC]
    refine zT 7 rfl (by kernel_rfl) (fun _ _ _ => id) rfl (fun _ _ => by go_simp <;> with_reducible rfl) zH ?_
    simp only [Act.put, zA, zB, zC]
    refine zT 8 rfl (by kernel_rfl) (fun _ _ _ => id) rfl (fun _ _ => by go_simp <;> with_reducible rfl) zH ?_
    simp only [Act.put, zA, zB, zC]
    refine zT 9 rfl (by kernel_rfl) (fun _ _ _ => id) rfl (fun _ _ => by have hi0 : (k : Int) < 13 := (by omega); go_simp <;> with_reducible rfl) zH ?_
    simp only [Act.put, zA, zB, zC]
    refine zT 10 rfl (by kernel_rfl) (fun _ _ _ => id) rfl (fun _ _ => by have hi0 : (j : Int) < 6 := (by omega); go_simp <;> with_reducible rfl) zH ?_
    simp only [Act.put, zA, zB, zC]
    refine zT 11 rfl (by kernel_rfl) (fun _ _ _ => id) rfl (fun wx hS => by have hc0 : wx.cell? ⟨w.heap.size + 1, k * 6 + j, none⟩ = some (.int .i64 (y (k * 6 + j))) := row_c hS.2 (k * 6 + j) (by omega); go_simp <;> with_reducible rfl) zH ?_
    simp only [Act.put, zA, zB, zC]
    refine zK 12 (by kernel_rfl) rfl (fun K hK => ?_)
    go_simp
    refine (Mul_any b s2.2 (x (k * 6 + i)) (y (k * 6 + j)) _ BF_l2.drew).mono ?_
    rintro e w1 ⟨rfl, f1, k1⟩
    generalize e1 : mulS s2.2 (x (k * 6 + i)) (y (k * 6 + j)) = r1 at f1 ⊢
    have E1 : Hid _ := e1
    clear e1
    have K1 : Kept b w w1 := Kept.trans Kl2.drew k1
    have B0_1 := B0_l2.drew.kept k1 (zG y1_BF)
    have B1_1 := B1_l2.drew.kept k1 (zG y2_BF)
    have B2_1 := B2_l2.drew.kept k1 (zG y3_BF)
    have B3_1 := B3_l2.drew.kept k1 (zG y4_BF)
    have B4_1 := B4_l2.drew.kept k1 (zG y13_BF)
    have z1 := B4_1.lies
    clear zH
    refine hK.out _ _ ⟨B0_1, B1_1⟩ (fun zH => ?_)
    clear hK K BF_l2 B0_l2 B1_l2 B2_l2 B3_l2 B4_l2 k1
    refine zT 13 rfl (by kernel_rfl) (fun _ _ _ => id) rfl (fun _ _ => by have hi0 : (k : Int) < 13 := (by omega); go_simp <;> with_reducible rfl) zH ?_
    simp only [Act.put, zA, zB, zC]
    refine zK 14 (by kernel_rfl) rfl (fun K hK => ?_)
    have c5_B4_0 : w1.cell? ⟨Wl1.heap.size, k, none⟩ = some (.int .i64 (s2.1 k)) := row_c B4_1 k (by omega)
    have g5_B4_1 := row_f B4_1 k (by omega)
    go_simp
    clear zH
    refine hK.out _ _ ⟨(B0_1.new Wl1.heap.size k (zL y13_B0) (.int .i64 r1.1)), (B1_1.new Wl1.heap.size k (zL y13_B1) (.int .i64 r1.1))⟩ (fun zH => ?_)
    clear hK K c5_B4_0 g5_B4_1
    refine wpAnyH_done (by kernel_rfl) ?_ _
    clear zH
    go_wp2_with fail
    have hs2 : Hid (hproductsS_l2 x y i j ((fun _ => 0), s1.2) (k + 1) = ((updF s2.1 k r1.1), r1.2)) := by show _ = _; rw [hproductsS_l2_succ]; unfold hproductsS_l2s; simp only [El2.out, E1.out]
    refine give_act (fun a_ ea_ => ?_)
    rw [hJ2.out]
    intro G_ hG_
    exact hG_ ((updF s2.1 k r1.1), r1.2) (zS a_ 0) (zS a_ 20) (zS a_ 40) hs2 (by subst ea_; rfl) (K1.new _ _ (by omega) _) (f1.new Wl1.heap.size k (zL y13_BF) (.int .i64 r1.1)) (B0_1.new Wl1.heap.size k (zL y13_B0) (.int .i64 r1.1)) (B1_1.new Wl1.heap.size k (zL y13_B1) (.int .i64 r1.1)) (B2_1.new Wl1.heap.size k (zL y13_B2) (.int .i64 r1.1)) (B3_1.new Wl1.heap.size k (zL y13_B3) (.int .i64 r1.1)) (row_put B4_1 k (by omega) r1.1)
   ·intro a Wl2 hI R
    rw [hJ2.out] at hI
    refine hI _ ?_
    clear hI hJ2
    intro r2 A2 C2 D2 E2 ea Kl2 BF_l2 B0_l2 B1_l2 B2_l2 B3_l2 B4_l2
    subst ea
    have zl2_BF := BF_l2.lies
    have zl2_B0 := B0_l2.lies
    have zl2_B1 := B1_l2.lies
    have zl2_B2 := B2_l2.lies
    have zl2_B3 := B3_l2.lies
    have zl2_B4 := B4_l2.lies
    go_wp2_with fail
    refine wp_region_held_drew (S := fun w' => Arr Wl1.heap.size (row 13 r2.1) w') (by kernel_rfl) B4_l2.drew (fun zH => ?_)
    refine zT 0 rfl (by kernel_rfl) (fun _ _ _ => id) rfl (fun _ _ => by go_simp <;> with_reducible rfl) zH ?_
    simp only [Act.put, zA, zB, zC]
    refine zT 1 rfl (by kernel_rfl) (fun _ _ _ => id) rfl (fun _ _ => by go_simp <;> with_reducible rfl) zH ?_
    simp only [Act.put, zA, zB, zC]
    refine zT 2 rfl (by kernel_rfl) (fun _ _ _ => id) rfl (fun _ _ => by go_simp <;> with_reducible rfl) zH ?_
    simp only [Act.put, zA, zB, zC]
    refine take_at (i := 3) rfl (by kernel_rfl) (by kernel_rfl) (by kernel_rfl) (fun _ _ _ h => h) (row_yield (by rfl) rfl rfl (fun _ hS => hS) (by kernel_rfl) (by rw [row_len]; kernel_rfl)) zH ?_
    simp only [Act.put, zA, zB, zC]
    refine zT 5 rfl (by kernel_rfl) (fun _ _ _ => id) rfl (fun _ _ => by have hi0 : (i : Int) < 6 := (by omega); go_simp <;> with_reducible rfl) zH ?_
    simp only [Act.put, zA, zB, zC]
    refine zK 4 (by kernel_rfl) rfl (fun K hK => ?_)
    go_simp
    refine (hmiddle_any b r2.2 r2.1 _ BF_l2.drew).mono ?_
    rintro e w3 ⟨rfl, f3, k3⟩
    generalize e3 : hmiddleS r2.2 r2.1 = r3 at f3 ⊢
    have E3 : Hid _ := e3
    clear e3
    have K3 : Kept b w w3 := Kept.trans Kl2.drew k3
    have B0_3 := B0_l2.drew.kept k3 (zG y1_BF)
    have B1_3 := B1_l2.drew.kept k3 (zG y2_BF)
    have B2_3 := B2_l2.drew.kept k3 (zG y3_BF)
    have B3_3 := B3_l2.drew.kept k3 (zG y4_BF)
    have B4_3 := B4_l2.drew.kept k3 (zG y13_BF)
    have z3 := B4_3.lies
    clear zH
    refine hK.out _ _ B4_3 (fun zH => ?_)
    clear hK K BF_l2 B0_l2 B1_l2 B2_l2 B3_l2 B4_l2 k3
    refine zT 6 rfl (by kernel_rfl) (fun _ _ _ => id) rfl (fun _ _ => by have hi0 : (j : Int) < 6 := (by omega); go_simp <;> with_reducible rfl) zH ?_
    simp only [Act.put, zA, zB, zC]
    refine zK 7 (by kernel_rfl) rfl (fun K hK => ?_)
    have c8_B3_0 : w3.cell? ⟨w.heap.size + 1 + 1 + 1, i * 6 + j, none⟩ = some (.int .i64 (s1.1 (i * 6 + j))) := row_c B3_3 (i * 6 + j) (by omega)
    have g8_B3_1 := row_f B3_3 (i * 6 + j) (by omega)
    go_simp
    clear zH
    refine hK.out _ _ (B4_3.new (w.heap.size + 1 + 1 + 1) (i * 6 + j) (zG y13_B3) (.int .i64 r3.1)) (fun zH => ?_)
    clear hK K c8_B3_0 g8_B3_1
    refine wpAnyH_done (by kernel_rfl) ?_ _
    clear zH
    go_wp2_with fail
    have hs1 : Hid (hproductsS_l1 x y i (s0.1, s0.2) (j + 1) = ((updF s1.1 (i * 6 + j) r3.1), r3.2)) := by show _ = _; rw [hproductsS_l1_succ]; unfold hproductsS_l1s; simp only [El1.out, E2.out, E3.out]
    refine give_act (fun a_ ea_ => ?_)
    rw [hJ1.out]
    intro G_ hG_
    exact hG_ ((updF s1.1 (i * 6 + j) r3.1), r3.2) (zS a_ 0) (zS a_ 20) (zS a_ 40) hs1 (by subst ea_; rfl) (K3.new _ _ (by omega) _) (f3.new (w.heap.size + 1 + 1 + 1) (i * 6 + j) (zL y4_BF) (.int .i64 r3.1)) (B0_3.new (w.heap.size + 1 + 1 + 1) (i * 6 + j) (zL y4_B0) (.int .i64 r3.1)) (B1_3.new (w.heap.size + 1 + 1 + 1) (i * 6 + j) (zL y4_B1) (.int .i64 r3.1)) (B2_3.new (w.heap.size + 1 + 1 + 1) (i * 6 + j) (zL y4_B2) (.int .i64 r3.1)) (row_put B3_3 (i * 6 + j) (by omega) r3.1)
  ·intro a Wl1 hI R
   rw [hJ1.out] at hI
   refine hI _ ?_
   clear hI hJ1
   intro r1 A1 C1 D1 E1 ea Kl1 BF_l1 B0_l1 B1_l1 B2_l1 B3_l1
   subst ea
   have zl1_BF := BF_l1.lies
   have zl1_B0 := B0_l1.lies
   have zl1_B1 := B1_l1.lies
   have zl1_B2 := B2_l1.lies
   have zl1_B3 := B3_l1.lies
   go_wp2_with fail
   have hs0 : Hid (hproductsS_l0 x y ((fun _ => 0), bad) (i + 1) = (r1.1, r1.2)) := by show _ = _; rw [hproductsS_l0_succ]; unfold hproductsS_l0s; simp only [El0.out, E1.out]
   refine give_act (fun a_ ea_ => ?_)
   rw [hJ0.out]
   intro G_ hG_
   exact hG_ (r1.1, r1.2) (zS a_ 0) (zS a_ 20) (zS a_ 40) hs0 (by subst ea_; rfl) Kl1 BF_l1 B0_l1 B1_l1 B2_l1 B3_l1
 ·intro a Wl0 hI R
  rw [hJ0.out] at hI
  refine hI _ ?_
  clear hI hJ0
  intro r1 A0 C0 D0 E1 ea Kl0 BF_l0 B0_l0 B1_l0 B2_l0 B3_l0
  subst ea
  have zl0_BF := BF_l0.lies
  have zl0_B0 := B0_l0.lies
  have zl0_B1 := B1_l0.lies
  have zl0_B2 := B2_l0.lies
  have zl0_B3 := B3_l0.lies
  go_wp2_with (first | (refine row_load (ty := 36) rfl rfl rfl B3_l0 (by kernel_rfl) (by rw [row_len]; kernel_rfl) ?_) | (refine store_stop rfl (by kernel_rfl) ?_))
  refine Stop.mk (store_row (l' := row 36 r1.1) rfl rfl rfl rfl B2_l0 (by simp only [row_len]) (by rw [row_len]; kernel_rfl) (row_one _ _) ?_)
  intro w2 B2_2 o2
  have K2 : Kept b w w2 := Kept.off Kl0 o2 (by omega)
  have BF_2 := BF_l0.off o2 (zL y3_BF)
  have B3_2 := B3_l0.off o2 (zG y4_B2)
  have z2_B2 := B2_2.lies
  have z2_BF := BF_2.lies
  have z2_B3 := B3_2.lies
  clear B2_l0 BF_l0 B3_l0 o2
  go_wp2_with (with_reducible refine post_stop ?_)
  refine Stop.mk ?_
  refine bodyPost_ret (v := .agg (row 36 r1.1).toArray) (results_arr Try.results38 B2_2 rfl (by kernel_rfl) (by rw [row_len]; kernel_rfl)) rfl ?_
  have hs : hproductsS bad x y = (r1.1, r1.2) := by unfold hproductsS; simp only [E1.out]
  rw [hs]
  exact ⟨rfl, BF_2, K2⟩
end Go.Proofs.Ytooehgijllihdaa
namespace Go.Proofs.Ytooehgijllihdaa
open Go.RowKit
set_option maxRecDepth 100000
set_option maxHeartbeats 20000000
theorem hraised_any (b : Nat) (bad : Bool) (m : Nat → Int) (p : Int) (q : Int) (w : World) (hw : Fl b bad w) :
  Calls Try.prog 37 #[.pointer (some ⟨b, 0, none⟩), .agg (row 36 m).toArray, .int .i64 p, .int .i64 q] w fun e w' => e = .returned (.agg (row 36 ((hraisedS bad m p q).1)).toArray) ∧ Fl b (hraisedS bad m p q).2 w' ∧ Kept b w w' := by
 have hl := hw.lies
 go_enter Try.func37, Try.ntmps37
 have y1_BF := hw.lies
 have y2_BF : b < w.heap.size + 1 := (Nat.lt_succ_of_lt hw.lies)
 have y2_B0 : w.heap.size < w.heap.size + 1 := by omega
 go_wp2_with fail
 obtain ⟨J0, hJ0⟩ : ∃ J : Nat → Act → World → Prop, Hid (J = fun i a Wl0 => ∀ G_ : Prop, (∀ (s0 : (Nat → Int) × Bool) (A0 C0 : Nat → Value), Hid (hraisedS_l0 p q (m, bad) i = s0) → a = { tmps := #[.pointer (some ⟨b, 0, none⟩), A0 1, .int .i64 p, .int .i64 q, A0 4, .pointer (some ⟨w.heap.size, 0, none⟩), A0 6, A0 7, .pointer (some ⟨w.heap.size + 1, 0, none⟩), A0 9, .int .i64 (i : Int), A0 11, A0 12, A0 13, A0 14, A0 15, A0 16, A0 17, A0 18, A0 19, C0 0, C0 1, C0 2, C0 3, C0 4, C0 5, C0 6, C0 7, C0 8, C0 9], defers := [] } → Kept b w Wl0 → Fl b s0.2 Wl0 → Arr w.heap.size (row 36 s0.1) Wl0 → Arr (w.heap.size + 1) (row 36 (fun _ => 0)) Wl0 → G_) → G_) := ⟨_, rfl⟩
 refine rounds_up J0 6 ?_ ?_ ?_
 ·refine give_act (fun a_ ea_ => ?_)
  rw [hJ0.out]
  intro G_ hG_
  exact hG_ (m, bad) (zS a_ 0) (zS a_ 20) rfl (by subst ea_; rfl) (((Kept.refl b w).al _).al _) ((hw.alloc _).alloc _) ((Arr_at _ _ (row 36 m) _ (by simp)).alloc _) (Arr_at _ _ (row 36 (fun _ => 0)) _ (by simp))
 ·intro i a Wl0 hi hI R hR
  rw [hJ0.out] at hI
  refine hI _ ?_
  clear hI
  intro s0 A0 C0 El0 ea Kl0 BF_l0 B0_l0 B1_l0
  subst ea
  have zl0_BF := BF_l0.lies
  have zl0_B0 := B0_l0.lies
  have zl0_B1 := B1_l0.lies
  go_wp2_with fail
  refine get_cont (fun KK3 hKK3 => ?_)
  have cont3 : ∀ (W3 : World) (l4 l6 l7 l11 l12 l13 l14 l15 l16 l17 l18 l19 l20 l21 l22 l23 l24 l25 l26 l27 l28 l29 : Value) (r1 : _) (r2 : _) , Hid (heitherP i p q = r1) → Hid (addS s0.2 (s0.1 (i * 6 + i)) r1 = r2) → Kept b w W3 → Fl b r2.2 W3 → Arr w.heap.size (row 36 (updF s0.1 (i * 6 + i) r2.1)) W3 → Arr (w.heap.size + 1) (row 36 (fun _ => 0)) W3 → KK3 { tmps := #[.pointer (some ⟨b, 0, none⟩), A0 1, .int .i64 p, .int .i64 q, l4, .pointer (some ⟨w.heap.size, 0, none⟩), l6, l7, .pointer (some ⟨w.heap.size + 1, 0, none⟩), .int .i64 (i : Int), .int .i64 (i : Int), l11, l12, l13, l14, l15, l16, l17, l18, l19, l20, l21, l22, l23, l24, l25, l26, l27, l28, l29], defers := [] } W3 := by
   intro W3 l4 l6 l7 l11 l12 l13 l14 l15 l16 l17 l18 l19 l20 l21 l22 l23 l24 l25 l26 l27 l28 l29 r1 r2 E1 E2 KC3 BF_c3 B0_c3 B1_c3
   have zc3_BF := BF_c3.lies
   have zc3_B0 := B0_c3.lies
   have zc3_B1 := B1_c3.lies
   rw [hKK3.out]
   dsimp only [Exit.inBlock, Exit.then]
   first | refine use_cont (by assumption) ?_ | skip
   have i3_0 : (i : Int) < 6 := by omega
   go_wp2_with fail
   clear i3_0
   have hs0 : Hid (hraisedS_l0 p q (m, bad) (i + 1) = ((updF s0.1 (i * 6 + i) r2.1), r2.2)) := by show _ = _; rw [hraisedS_l0_succ]; unfold hraisedS_l0s; simp only [El0.out, E1.out, E2.out]
   refine give_act (fun a_ ea_ => ?_)
   rw [hJ0.out]
   intro G_ hG_
   exact hG_ ((updF s0.1 (i * 6 + i) r2.1), r2.2) (zS a_ 0) (zS a_ 20) hs0 (by subst ea_; rfl) KC3 BF_c3 B0_c3 B1_c3
  refine wp_region_held_drew (S := fun w' => NearR w.heap.size 36 s0.1 (i * 6 + i) w') (by kernel_rfl) (NearR.same B0_l0.drew) (fun zH => ?_)
  refine zT 0 rfl (by kernel_rfl) (fun _ _ _ => id) rfl (fun _ _ => by go_simp <;> with_reducible rfl) zH ?_
  simp only [Act.put, zA, zB, zC]
  refine zT 1 rfl (by kernel_rfl) (fun _ _ _ => id) rfl (fun _ _ => by go_simp <;> with_reducible rfl) zH ?_
  simp only [Act.put, zA, zB, zC]
  refine zT 2 rfl (by kernel_rfl) (fun _ _ _ => id) rfl (fun _ _ => by go_simp <;> with_reducible rfl) zH ?_
  simp only [Act.put, zA, zB, zC]
  refine zT 3 rfl (by kernel_rfl) (fun _ _ _ => id) rfl (fun _ _ => by go_simp <;> with_reducible rfl) zH ?_
  simp only [Act.put, zA, zB, zC]
  refine zT 4 rfl (by kernel_rfl) (fun _ _ _ => id) rfl (fun _ _ => by go_simp <;> with_reducible rfl) zH ?_
  simp only [Act.put, zA, zB, zC]
  refine zT 5 rfl (by kernel_rfl) (fun _ _ _ => id) rfl (fun _ _ => by have hi0 : (i : Int) < 6 := (by omega); go_simp <;> with_reducible rfl) zH ?_
  simp only [Act.put, zA, zB, zC]
  refine zT 6 rfl (by kernel_rfl) (fun _ _ _ => id) rfl (fun _ _ => by have hi0 : (i : Int) < 6 := (by omega); go_simp <;> with_reducible rfl) zH ?_
  simp only [Act.put, zA, zB, zC]
  refine zT 8 rfl (by kernel_rfl) (fun _ _ _ => id) rfl (fun _ _ => by go_simp <;> with_reducible rfl) zH ?_
  simp only [Act.put, zA, zB, zC]
  refine zT 9 rfl (by kernel_rfl) (fun _ _ _ => id) rfl (fun _ _ => by go_simp <;> with_reducible rfl) zH ?_
  simp only [Act.put, zA, zB, zC]
  refine zT 10 rfl (by kernel_rfl) (fun _ _ _ => id) rfl (fun _ _ => by go_simp <;> with_reducible rfl) zH ?_
  simp only [Act.put, zA, zB, zC]
  refine zT 13 rfl (by kernel_rfl) (fun _ _ _ => id) rfl (fun _ _ => by have hi0 : (i : Int) < 6 := (by omega); go_simp <;> with_reducible rfl) zH ?_
  simp only [Act.put, zA, zB, zC]
  refine call_at2 (i0 := 7) (i1 := 11) (by kernel_rfl) rfl rfl (fun K hK => ?_) (fun K hK => ?_)
  ·have c3_B0_0 : Wl0.cell? ⟨w.heap.size, i * 6 + i, none⟩ = some (.int .i64 (s0.1 (i * 6 + i))) := row_c B0_l0 (i * 6 + i) (by omega)
   go_simp
   clear zH
   refine hK.out _ _ (NearR.same B0_l0.drew) (fun zH => ?_)
   clear hK K c3_B0_0
   refine zK 11 (by kernel_rfl) rfl (fun K hK => ?_)
   go_simp
   refine (heither_any i p q _).mono ?_
   rintro e w1 ⟨rfl, k1⟩
   generalize e1 : heitherP i p q = r1
   have E1 : Hid _ := e1
   clear e1
   have K1 : Kept b w w1 := Kept.trans Kl0.drew (Kept.of_below k1)
   have BF_1 := BF_l0.drew.below k1
   have B0_1 := B0_l0.drew.below k1
   have B1_1 := B1_l0.drew.below k1
   have z1 := B1_1.lies
   clear zH
   refine hK.out _ _ (NearR.same B0_1) (fun zH => ?_)
   clear hK K BF_l0 B0_l0 B1_l0 k1
   refine zK 12 (by kernel_rfl) rfl (fun K hK => ?_)
   go_simp
   refine (Add_any b s0.2 (s0.1 (i * 6 + i)) r1 _ BF_1).mono ?_
   rintro e w2 ⟨rfl, f2, k2⟩
   generalize e2 : addS s0.2 (s0.1 (i * 6 + i)) r1 = r2 at f2 ⊢
   have E2 : Hid _ := e2
   clear e2
   have K2 := Kept.trans K1 k2
   have B0_2 := B0_1.kept k2 (zG y1_BF)
   have B1_2 := B1_1.kept k2 (zG y2_BF)
   have z2 := B1_2.lies
   clear zH
   refine hK.out _ _ (NearR.same B0_2) (fun zH => ?_)
   clear hK K K1 BF_1 B0_1 B1_1 k2
   refine zT 14 rfl (by kernel_rfl) (fun _ _ _ => id) rfl (fun _ _ => by have hi0 : (i : Int) < 6 := (by omega); go_simp <;> with_reducible rfl) zH ?_
   simp only [Act.put, zA, zB, zC]
   refine zK 15 (by kernel_rfl) rfl (fun K hK => ?_)
   have c4_B0_0 : w2.cell? ⟨w.heap.size, i * 6 + i, none⟩ = some (.int .i64 (s0.1 (i * 6 + i))) := row_c B0_2 (i * 6 + i) (by omega)
   have g4_B0_1 := row_f B0_2 (i * 6 + i) (by omega)
   go_simp
   clear zH
   refine hK.out _ _ (NearR.upd (row_put B0_2 (i * 6 + i) (by omega) r2.1)) (fun zH => ?_)
   clear hK K c4_B0_0 g4_B0_1
   refine wpAnyH_done (by kernel_rfl) ?_ _
   clear zH
   refine put_cont hKK3 ?_
   exact cont3 _ _ _ _ _ _ _ _ _ _ _ _ _ _ _ _ _ _ _ _ _ _ _ r1 r2 E1 E2 (K2.new _ _ (by omega) _) (f2.new w.heap.size (i * 6 + i) (zL y1_BF) (.int .i64 r2.1)) (row_put B0_2 (i * 6 + i) (by omega) r2.1) (B1_2.new w.heap.size (i * 6 + i) (zG y2_B0) (.int .i64 r2.1))
  ·go_simp
   refine (heither_any i p q _).mono ?_
   rintro e w1 ⟨rfl, k1⟩
   generalize e1 : heitherP i p q = r1
   have E1 : Hid _ := e1
   clear e1
   have K1 : Kept b w w1 := Kept.trans Kl0.drew (Kept.of_below k1)
   have BF_1 := BF_l0.drew.below k1
   have B0_1 := B0_l0.drew.below k1
   have B1_1 := B1_l0.drew.below k1
   have z1 := B1_1.lies
   clear zH
   refine hK.out _ _ (NearR.same B0_1) (fun zH => ?_)
   clear hK K BF_l0 B0_l0 B1_l0 k1
   refine zK 7 (by kernel_rfl) rfl (fun K hK => ?_)
   have c3_B0_0 : w1.cell? ⟨w.heap.size, i * 6 + i, none⟩ = some (.int .i64 (s0.1 (i * 6 + i))) := row_c B0_1 (i * 6 + i) (by omega)
   go_simp
   clear zH
   refine hK.out _ _ (NearR.same B0_1) (fun zH => ?_)
   clear hK K c3_B0_0
   refine zK 12 (by kernel_rfl) rfl (fun K hK => ?_)
   go_simp
   refine (Add_any b s0.2 (s0.1 (i * 6 + i)) r1 _ BF_1).mono ?_
   rintro e w2 ⟨rfl, f2, k2⟩
   generalize e2 : addS s0.2 (s0.1 (i * 6 + i)) r1 = r2 at f2 ⊢
   have E2 : Hid _ := e2
   clear e2
   have K2 := Kept.trans K1 k2
   have B0_2 := B0_1.kept k2 (zG y1_BF)
   have B1_2 := B1_1.kept k2 (zG y2_BF)
   have z2 := B1_2.lies
   clear zH
   refine hK.out _ _ (NearR.same B0_2) (fun zH => ?_)
   clear hK K K1 BF_1 B0_1 B1_1 k2
   refine zT 14 rfl (by kernel_rfl) (fun _ _ _ => id) rfl (fun _ _ => by have hi0 : (i : Int) < 6 := (by omega); go_simp <;> with_reducible rfl) zH ?_
   simp only [Act.put, zA, zB, zC]
   refine zK 15 (by kernel_rfl) rfl (fun K hK => ?_)
   have c4_B0_0 : w2.cell? ⟨w.heap.size, i * 6 + i, none⟩ = some (.int .i64 (s0.1 (i * 6 + i))) := row_c B0_2 (i * 6 + i) (by omega)
   have g4_B0_1 := row_f B0_2 (i * 6 + i) (by omega)
   go_simp
   clear zH
   refine hK.out _ _ (NearR.upd (row_put B0_2 (i * 6 + i) (by omega) r2.1)) (fun zH => ?_)
   clear hK K c4_B0_0 g4_B0_1
   refine wpAnyH_done (by kernel_rfl) ?_ _
   clear zH
   refine put_cont hKK3 ?_
   exact cont3 _ _ _ _ _ _ _ _ _ _ _ _ _ _ _ _ _ _ _ _ _ _ _ r1 r2 E1 E2 (K2.new _ _ (by omega) _) (f2.new w.heap.size (i * 6 + i) (zL y1_BF) (.int .i64 r2.1)) (row_put B0_2 (i * 6 + i) (by omega) r2.1) (B1_2.new w.heap.size (i * 6 + i) (zG y2_B0) (.int .i64 r2.1))
 ·intro a Wl0 hI R
  rw [hJ0.out] at hI
  refine hI _ ?_
  clear hI hJ0
  intro r1 A0 C0 E1 ea Kl0 BF_l0 B0_l0 B1_l0
  subst ea
  have zl0_BF := BF_l0.lies
  have zl0_B0 := B0_l0.lies
  have zl0_B1 := B1_l0.lies
  go_wp2_with (first | (refine row_load (ty := 36) rfl rfl rfl B0_l0 (by kernel_rfl) (by rw [row_len]; kernel_rfl) ?_) | (refine store_stop rfl (by kernel_rfl) ?_))
  refine Stop.mk (store_row (l' := row 36 r1.1) rfl rfl rfl rfl B1_l0 (by simp only [row_len]) (by rw [row_len]; kernel_rfl) (row_one _ _) ?_)
  intro w2 B1_2 o2
  have K2 : Kept b w w2 := Kept.off Kl0 o2 (by omega)
  have BF_2 := BF_l0.off o2 (zL y2_BF)
  have B0_2 := B0_l0.off o2 (zL y2_B0)
  have z2_B1 := B1_2.lies
  have z2_BF := BF_2.lies
  have z2_B0 := B0_2.lies
  clear B1_l0 BF_l0 B0_l0 o2
  go_wp2_with (with_reducible refine post_stop ?_)
  refine Stop.mk ?_
  refine bodyPost_ret (v := .agg (row 36 r1.1).toArray) (results_arr Try.results37 B1_2 rfl (by kernel_rfl) (by rw [row_len]; kernel_rfl)) rfl ?_
  have hs : hraisedS bad m p q = (r1.1, r1.2) := by unfold hraisedS; simp only [E1.out]
  rw [hs]
  exact ⟨rfl, BF_2, K2⟩
end Go.Proofs.Ytooehgijllihdaa
namespace Go.Proofs.Ytooehgijllihdaa
open Go.RowKit
set_option maxRecDepth 100000
set_option maxHeartbeats 20000000
theorem hturned_any (b : Nat) (bad : Bool) (q : V4) (r : Nat → Int) (w : World) (hw : Fl b bad w) :
  Calls Try.prog 50 #[.pointer (some ⟨b, 0, none⟩), .agg #[.int .i64 q.1, .int .i64 q.2.1, .int .i64 q.2.2.1, .int .i64 q.2.2.2], .agg (row 6 r).toArray] w fun e w' => e = .returned (.agg #[.int .i64 ((hturnedS bad q r).1.1), .int .i64 ((hturnedS bad q r).1.2.1), .int .i64 ((hturnedS bad q r).1.2.2.1), .int .i64 ((hturnedS bad q r).1.2.2.2)]) ∧ Fl b (hturnedS bad q r).2 w' ∧ Kept b w w' := by
 have hl := hw.lies
 go_enter Try.func50, Try.ntmps50
 have y1_BF := hw.lies
 have y2_BF : b < w.heap.size + 1 := (Nat.lt_succ_of_lt hw.lies)
 have y2_B0 : w.heap.size < w.heap.size + 1 := by omega
 have y3_BF : b < w.heap.size + 1 + 1 := (Nat.lt_succ_of_lt (Nat.lt_succ_of_lt hw.lies))
 have y3_B0 : w.heap.size < w.heap.size + 1 + 1 := by omega
 have y3_B1 : w.heap.size + 1 < w.heap.size + 1 + 1 := by omega
 go_wp2_with (refine row_load (ty := 34) rfl rfl rfl ((Arr_at _ _ (row 6 r) _ (by simp)).alloc _) (by kernel_rfl) (by rw [row_len]; kernel_rfl) ?_)
 refine (hparted_any r _).mono ?_
 rintro e w1 ⟨rfl, k1⟩
 generalize e1 : hpartedP r = r1
 have E1 : Hid _ := e1
 clear e1
 try dsimp only
 have K1 : Kept b w w1 := Kept.trans ((((Kept.refl b w).al _).al _).al _) (Kept.of_below k1)
 have BF_1 := (((hw.alloc _).alloc _).alloc _).below k1
 have B0_1 := (((Arr_at _ w.heap.size [.int .i64 q.1, .int .i64 q.2.1, .int .i64 q.2.2.1, .int .i64 q.2.2.2] _ (by simp)).alloc _).alloc _).below k1
 have B1_1 := ((Arr_at _ (w.heap.size + 1) (row 6 r) _ (by simp)).alloc _).below k1
 have B2_1 := (Arr_at _ (w.heap.size + 1 + 1) [.int .i64 0, .int .i64 0, .int .i64 0, .int .i64 0] _ (by simp)).below k1
 have z1 := B2_1.lies
 clear k1
 have y4_BF := BF_1.lies
 have y4_B0 := B0_1.lies
 have y4_B1 := B1_1.lies
 have y4_B2 := B2_1.lies
 have y5_BF : b < w1.heap.size + 1 := (Nat.lt_succ_of_lt BF_1.lies)
 have y5_B0 : w.heap.size < w1.heap.size + 1 := (Nat.lt_succ_of_lt B0_1.lies)
 have y5_B1 : w.heap.size + 1 < w1.heap.size + 1 := (Nat.lt_succ_of_lt B1_1.lies)
 have y5_B2 : w.heap.size + 1 + 1 < w1.heap.size + 1 := (Nat.lt_succ_of_lt B2_1.lies)
 have y5_B3 : w1.heap.size < w1.heap.size + 1 := by omega
 go_wp2_with fail
 refine wp_region_held_drew (S := fun w' => Arr w1.heap.size [.int .i64 r1.1.1, .int .i64 r1.1.2.1, .int .i64 r1.1.2.2] w' ∧ Arr w.heap.size [.int .i64 q.1, .int .i64 q.2.1, .int .i64 q.2.2.1, .int .i64 q.2.2.2] w') (by kernel_rfl) ⟨((Arr_at _ _ [.int .i64 r1.1.1, .int .i64 r1.1.2.1, .int .i64 r1.1.2.2] _ (by simp)).alloc _).drew, ((B0_1.alloc _).alloc _).drew⟩ (fun zH => ?_)
 refine zT 0 rfl (by kernel_rfl) (fun _ _ _ => id) rfl (fun _ _ => by go_simp <;> with_reducible rfl) zH ?_
 simp only [Act.put, zA, zB, zC]
 refine zT 1 rfl (by kernel_rfl) (fun _ _ _ => id) rfl (fun _ _ => by go_simp <;> with_reducible rfl) zH ?_
 simp only [Act.put, zA, zB, zC]
 refine zT 2 rfl (by kernel_rfl) (fun _ _ _ => id) rfl (fun _ _ => by go_simp <;> with_reducible rfl) zH ?_
 simp only [Act.put, zA, zB, zC]
 refine zT 3 rfl (by kernel_rfl) (fun _ _ _ => id) rfl (fun wx hS => by have hc0 : wx.cell? ⟨w1.heap.size, 0, none⟩ = some (.int .i64 r1.1.1) := hS.1.c 0 (zD rfl); have hc1 : wx.cell? ⟨w1.heap.size, 1, none⟩ = some (.int .i64 r1.1.2.1) := hS.1.c 1 (zD rfl); have hc2 : wx.cell? ⟨w1.heap.size, 2, none⟩ = some (.int .i64 r1.1.2.2) := hS.1.c 2 (zD rfl); go_simp <;> with_reducible rfl) zH ?_
 simp only [Act.put, zA, zB, zC]
 refine zT 5 rfl (by kernel_rfl) (fun _ _ _ => id) rfl (fun wx hS => by have hc0 : wx.cell? ⟨w.heap.size, 0, none⟩ = some (.int .i64 q.1) := hS.2.c 0 (zD rfl); have hc1 : wx.cell? ⟨w.heap.size, 1, none⟩ = some (.int .i64 q.2.1) := hS.2.c 1 (zD rfl); have hc2 : wx.cell? ⟨w.heap.size, 2, none⟩ = some (.int .i64 q.2.2.1) := hS.2.c 2 (zD rfl); have hc3 : wx.cell? ⟨w.heap.size, 3, none⟩ = some (.int .i64 q.2.2.2) := hS.2.c 3 (zD rfl); go_simp <;> with_reducible rfl) zH ?_
 simp only [Act.put, zA, zB, zC]
 refine zK 4 (by kernel_rfl) rfl (fun K hK => ?_)
 go_simp
 refine (qFromRod_any b bad r1.1 _ ((BF_1.alloc _).alloc _).drew).mono ?_
 rintro e w2 ⟨rfl, f2, k2⟩
 generalize e2 : qFromRodS bad r1.1 = r2 at f2 ⊢
 have E2 : Hid _ := e2
 clear e2
 have K2 : Kept b w w2 := Kept.trans ((K1.al _).al _).drew k2
 have B0_2 := ((B0_1.alloc _).alloc _).drew.kept k2 (zG y1_BF)
 have B2_2 := ((B2_1.alloc _).alloc _).drew.kept k2 (zG y3_BF)
 have B3_2 := ((Arr_at _ w1.heap.size [.int .i64 r1.1.1, .int .i64 r1.1.2.1, .int .i64 r1.1.2.2] _ (by simp)).alloc _).drew.kept k2 (zG y4_BF)
 have z2 := B3_2.lies
 clear zH
 refine hK.out _ _ ⟨B3_2, B0_2⟩ (fun zH => ?_)
 clear hK K K1 BF_1 B0_1 B2_1 k2
 refine zK 6 (by kernel_rfl) rfl (fun K hK => ?_)
 go_simp
 refine (qMul_any b r2.2 r2.1 q _ f2).mono ?_
 rintro e w3 ⟨rfl, f3, k3⟩
 generalize e3 : qMulS r2.2 r2.1 q = r3 at f3 ⊢
 have E3 : Hid _ := e3
 clear e3
 have K3 := Kept.trans K2 k3
 have B0_3 := B0_2.kept k3 (zG y1_BF)
 have B2_3 := B2_2.kept k3 (zG y3_BF)
 have B3_3 := B3_2.kept k3 (zG y4_BF)
 have z3 := B3_3.lies
 clear zH
 refine hK.out _ _ ⟨B3_3, B0_3⟩ (fun zH => ?_)
 clear hK K K2 f2 B0_2 B2_2 B3_2 k3
 refine zK 7 (by kernel_rfl) rfl (fun K hK => ?_)
 go_simp
 refine (qUnit_any b r3.2 r3.1 _ f3).mono ?_
 rintro e w4 ⟨rfl, f4, k4⟩
 generalize e4 : qUnitS r3.2 r3.1 = r4 at f4 ⊢
 have E4 : Hid _ := e4
 clear e4
 have K4 := Kept.trans K3 k4
 have B0_4 := B0_3.kept k4 (zG y1_BF)
 have B2_4 := B2_3.kept k4 (zG y3_BF)
 have B3_4 := B3_3.kept k4 (zG y4_BF)
 have z4 := B3_4.lies
 clear zH
 refine hK.out _ _ ⟨B3_4, B0_4⟩ (fun zH => ?_)
 clear hK K K3 f3 B0_3 B2_3 B3_3 k4
 refine zK 8 (by kernel_rfl) rfl (fun K hK => ?_)
 have c3_B2_0 : w4.cell? ⟨w.heap.size + 1 + 1, 0, none⟩ = some (.int .i64 0) := B2_4.c 0 (zD rfl)
 have c3_B2_1 : w4.cell? ⟨w.heap.size + 1 + 1, 1, none⟩ = some (.int .i64 0) := B2_4.c 1 (zD rfl)
 have c3_B2_2 : w4.cell? ⟨w.heap.size + 1 + 1, 2, none⟩ = some (.int .i64 0) := B2_4.c 2 (zD rfl)
 have c3_B2_3 : w4.cell? ⟨w.heap.size + 1 + 1, 3, none⟩ = some (.int .i64 0) := B2_4.c 3 (zD rfl)
 have g3_B2_0 := B2_4.f 0 (zD rfl)
 have g3_B2_1 := B2_4.f 1 (zD rfl)
 have g3_B2_2 := B2_4.f 2 (zD rfl)
 have g3_B2_3 := B2_4.f 3 (zD rfl)
 go_simp
 clear zH
 refine hK.out _ _ ⟨((((B3_4.new (w.heap.size + 1 + 1) 0 (zG y4_B2) (.int .i64 r4.1.1)).new (w.heap.size + 1 + 1) 1 (zG y4_B2) (.int .i64 r4.1.2.1)).new (w.heap.size + 1 + 1) 2 (zG y4_B2) (.int .i64 r4.1.2.2.1)).new (w.heap.size + 1 + 1) 3 (zG y4_B2) (.int .i64 r4.1.2.2.2)), ((((B0_4.new (w.heap.size + 1 + 1) 0 (zL y3_B0) (.int .i64 r4.1.1)).new (w.heap.size + 1 + 1) 1 (zL y3_B0) (.int .i64 r4.1.2.1)).new (w.heap.size + 1 + 1) 2 (zL y3_B0) (.int .i64 r4.1.2.2.1)).new (w.heap.size + 1 + 1) 3 (zL y3_B0) (.int .i64 r4.1.2.2.2))⟩ (fun zH => ?_)
 clear hK K c3_B2_0 c3_B2_1 c3_B2_2 c3_B2_3 g3_B2_0 g3_B2_1 g3_B2_2 g3_B2_3
 refine wpAnyH_done (by kernel_rfl) ?_ _
 clear zH
 go_wp2_with (with_reducible refine post_stop ?_)
 refine Stop.mk ?_
 refine bodyPost_ret (v := .agg #[.int .i64 r4.1.1, .int .i64 r4.1.2.1, .int .i64 r4.1.2.2.1, .int .i64 r4.1.2.2.2]) (results_arr Try.results50 ((((B2_4.put 0 (zD rfl) (.int .i64 r4.1.1) [.int .i64 r4.1.1, .int .i64 0, .int .i64 0, .int .i64 0] rfl).put 1 (zD rfl) (.int .i64 r4.1.2.1) [.int .i64 r4.1.1, .int .i64 r4.1.2.1, .int .i64 0, .int .i64 0] rfl).put 2 (zD rfl) (.int .i64 r4.1.2.2.1) [.int .i64 r4.1.1, .int .i64 r4.1.2.1, .int .i64 r4.1.2.2.1, .int .i64 0] rfl).put 3 (zD rfl) (.int .i64 r4.1.2.2.2) [.int .i64 r4.1.1, .int .i64 r4.1.2.1, .int .i64 r4.1.2.2.1, .int .i64 r4.1.2.2.2] rfl) rfl (by kernel_rfl) (by kernel_rfl)) rfl ?_
 have hs : hturnedS bad q r = (r4.1, r4.2) := by unfold hturnedS; simp only [E1.out, E2.out, E3.out, E4.out]
 rw [hs]
 exact ⟨rfl, ((((f4.new (w.heap.size + 1 + 1) 0 (zL y3_BF) (.int .i64 r4.1.1)).new (w.heap.size + 1 + 1) 1 (zL y3_BF) (.int .i64 r4.1.2.1)).new (w.heap.size + 1 + 1) 2 (zL y3_BF) (.int .i64 r4.1.2.2.1)).new (w.heap.size + 1 + 1) 3 (zL y3_BF) (.int .i64 r4.1.2.2.2)), ((((K4.new _ _ (by omega) _).new _ _ (by omega) _).new _ _ (by omega) _).new _ _ (by omega) _)⟩
theorem hbiased_any (b : Nat) (bad : Bool) (v : V3) (r : Nat → Int) (w : World) (hw : Fl b bad w) :
  Calls Try.prog 51 #[.pointer (some ⟨b, 0, none⟩), .agg #[.int .i64 v.1, .int .i64 v.2.1, .int .i64 v.2.2], .agg (row 6 r).toArray] w fun e w' => e = .returned (.agg #[.int .i64 ((hbiasedS bad v r).1.1), .int .i64 ((hbiasedS bad v r).1.2.1), .int .i64 ((hbiasedS bad v r).1.2.2)]) ∧ Fl b (hbiasedS bad v r).2 w' ∧ Kept b w w' := by
 have hl := hw.lies
 go_enter Try.func51, Try.ntmps51
 have y1_BF := hw.lies
 have y2_BF : b < w.heap.size + 1 := (Nat.lt_succ_of_lt hw.lies)
 have y2_B0 : w.heap.size < w.heap.size + 1 := by omega
 have y3_BF : b < w.heap.size + 1 + 1 := (Nat.lt_succ_of_lt (Nat.lt_succ_of_lt hw.lies))
 have y3_B0 : w.heap.size < w.heap.size + 1 + 1 := by omega
 have y3_B1 : w.heap.size + 1 < w.heap.size + 1 + 1 := by omega
 go_wp2_with (refine row_load (ty := 34) rfl rfl rfl ((Arr_at _ _ (row 6 r) _ (by simp)).alloc _) (by kernel_rfl) (by rw [row_len]; kernel_rfl) ?_)
 refine (hparted_any r _).mono ?_
 rintro e w1 ⟨rfl, k1⟩
 generalize e1 : hpartedP r = r1
 have E1 : Hid _ := e1
 clear e1
 try dsimp only
 have K1 : Kept b w w1 := Kept.trans ((((Kept.refl b w).al _).al _).al _) (Kept.of_below k1)
 have BF_1 := (((hw.alloc _).alloc _).alloc _).below k1
 have B0_1 := (((Arr_at _ w.heap.size [.int .i64 v.1, .int .i64 v.2.1, .int .i64 v.2.2] _ (by simp)).alloc _).alloc _).below k1
 have B1_1 := ((Arr_at _ (w.heap.size + 1) (row 6 r) _ (by simp)).alloc _).below k1
 have B2_1 := (Arr_at _ (w.heap.size + 1 + 1) [.int .i64 0, .int .i64 0, .int .i64 0] _ (by simp)).below k1
 have z1 := B2_1.lies
 clear k1
 have y4_BF := BF_1.lies
 have y4_B0 := B0_1.lies
 have y4_B1 := B1_1.lies
 have y4_B2 := B2_1.lies
 have y5_BF : b < w1.heap.size + 1 := (Nat.lt_succ_of_lt BF_1.lies)
 have y5_B0 : w.heap.size < w1.heap.size + 1 := (Nat.lt_succ_of_lt B0_1.lies)
 have y5_B1 : w.heap.size + 1 < w1.heap.size + 1 := (Nat.lt_succ_of_lt B1_1.lies)
 have y5_B2 : w.heap.size + 1 + 1 < w1.heap.size + 1 := (Nat.lt_succ_of_lt B2_1.lies)
 have y5_B3 : w1.heap.size < w1.heap.size + 1 := by omega
 have c2_B0_0 : w1.cell? ⟨w.heap.size, 0, none⟩ = some (.int .i64 v.1) := B0_1.c 0 (zD rfl)
 have c2_B0_1 : w1.cell? ⟨w.heap.size, 1, none⟩ = some (.int .i64 v.2.1) := B0_1.c 1 (zD rfl)
 have c2_B0_2 : w1.cell? ⟨w.heap.size, 2, none⟩ = some (.int .i64 v.2.2) := B0_1.c 2 (zD rfl)
 have l2_B0 := B0_1.lies
 go_wp2_with fail
 refine (vAdd_any b bad v r1.2 _ ((BF_1.alloc _).alloc _)).mono ?_
 rintro e w2 ⟨rfl, f2, k2⟩
 generalize e2 : vAddS bad v r1.2 = r2 at f2 ⊢
 have E2 : Hid _ := e2
 clear e2
 try dsimp only
 have K2 : Kept b w w2 := Kept.trans ((K1.al _).al _) k2
 have B0_2 := ((B0_1.alloc _).alloc _).kept k2 (zG y1_BF)
 have B2_2 := ((B2_1.alloc _).alloc _).kept k2 (zG y3_BF)
 have B4_2 := (Arr_at _ (w1.heap.size + 1) [.int .i64 r1.2.1, .int .i64 r1.2.2.1, .int .i64 r1.2.2.2] _ (by simp)).kept k2 (zG y5_BF)
 have z2 := B4_2.lies
 clear c2_B0_0 c2_B0_1 c2_B0_2 l2_B0 K1 BF_1 B0_1 B2_1 k2
 have c3_B2_0 : w2.cell? ⟨w.heap.size + 1 + 1, 0, none⟩ = some (.int .i64 0) := B2_2.c 0 (zD rfl)
 have c3_B2_1 : w2.cell? ⟨w.heap.size + 1 + 1, 1, none⟩ = some (.int .i64 0) := B2_2.c 1 (zD rfl)
 have c3_B2_2 : w2.cell? ⟨w.heap.size + 1 + 1, 2, none⟩ = some (.int .i64 0) := B2_2.c 2 (zD rfl)
 have g3_B2_0 := B2_2.f 0 (zD rfl)
 have g3_B2_1 := B2_2.f 1 (zD rfl)
 have g3_B2_2 := B2_2.f 2 (zD rfl)
 go_wp2_with (with_reducible refine post_stop ?_)
 refine Stop.mk ?_
 clear c3_B2_0 c3_B2_1 c3_B2_2 g3_B2_0 g3_B2_1 g3_B2_2
 refine bodyPost_ret (v := .agg #[.int .i64 r2.1.1, .int .i64 r2.1.2.1, .int .i64 r2.1.2.2]) (results_arr Try.results51 (((B2_2.put 0 (zD rfl) (.int .i64 r2.1.1) [.int .i64 r2.1.1, .int .i64 0, .int .i64 0] rfl).put 1 (zD rfl) (.int .i64 r2.1.2.1) [.int .i64 r2.1.1, .int .i64 r2.1.2.1, .int .i64 0] rfl).put 2 (zD rfl) (.int .i64 r2.1.2.2) [.int .i64 r2.1.1, .int .i64 r2.1.2.1, .int .i64 r2.1.2.2] rfl) rfl (by kernel_rfl) (by kernel_rfl)) rfl ?_
 have hs : hbiasedS bad v r = (r2.1, r2.2) := by unfold hbiasedS; simp only [E1.out, E2.out]
 rw [hs]
 exact ⟨rfl, (((f2.new (w.heap.size + 1 + 1) 0 (zL y3_BF) (.int .i64 r2.1.1)).new (w.heap.size + 1 + 1) 1 (zL y3_BF) (.int .i64 r2.1.2.1)).new (w.heap.size + 1 + 1) 2 (zL y3_BF) (.int .i64 r2.1.2.2)), (((K2.new _ _ (by omega) _).new _ _ (by omega) _).new _ _ (by omega) _)⟩
end Go.Proofs.Ytooehgijllihdaa
namespace Go.Proofs.Ytooehgijllihdaa
open Go.RowKit
set_option maxRecDepth 100000
set_option maxHeartbeats 20000000
theorem hunits_any (b : Nat) (bad : Bool) (v : Nat → Int) (w : World) (hw : Fl b bad w) :
  Calls Try.prog 34 #[.pointer (some ⟨b, 0, none⟩), .agg (row 6 v).toArray] w fun e w' => e = .returned (.agg #[.int .i64 ((hunitsS bad v).1.1), .int .i64 ((hunitsS bad v).1.2.1), .int .i64 ((hunitsS bad v).1.2.2.1), .int .i64 ((hunitsS bad v).1.2.2.2.1), .int .i64 ((hunitsS bad v).1.2.2.2.2.1), .int .i64 ((hunitsS bad v).1.2.2.2.2.2)]) ∧ Fl b (hunitsS bad v).2 w' ∧ Kept b w w' := by
 have hl := hw.lies
 go_enter Try.func34, Try.ntmps34
 have y1_BF := hw.lies
 have y2_BF : b < w.heap.size + 1 := (Nat.lt_succ_of_lt hw.lies)
 have y2_B0 : w.heap.size < w.heap.size + 1 := by omega
 go_wp2_with fail
 refine wp_region_held_drew (S := fun w' => Arr w.heap.size (row 6 v) w') (by kernel_rfl) ((Arr_at _ _ (row 6 v) _ (by simp)).alloc _).drew (fun zH => ?_)
 refine zT 0 rfl (by kernel_rfl) (fun _ _ _ => id) rfl (fun _ _ => by go_simp <;> with_reducible rfl) zH ?_
 simp only [Act.put, zA, zB, zC]
 refine zT 1 rfl (by kernel_rfl) (fun _ _ _ => id) rfl (fun _ _ => by go_simp <;> with_reducible rfl) zH ?_
 simp only [Act.put, zA, zB, zC]
 refine zT 2 rfl (by kernel_rfl) (fun _ _ _ => id) rfl (fun wx hS => by have hc0 : wx.cell? ⟨w.heap.size, 0, none⟩ = some (.int .i64 (v 0)) := row_c hS 0 (by omega); have hc1 : wx.cell? ⟨w.heap.size, 1, none⟩ = some (.int .i64 (v 1)) := row_c hS 1 (by omega); have hc2 : wx.cell? ⟨w.heap.size, 2, none⟩ = some (.int .i64 (v 2)) := row_c hS 2 (by omega); go_simp <;> with_reducible rfl) zH ?_
 simp only [Act.put, zA, zB, zC]
 refine zT 4 rfl (by kernel_rfl) (fun _ _ _ => id) rfl (fun _ _ => by go_simp <;> with_reducible rfl) zH ?_
 simp only [Act.put, zA, zB, zC]
 refine zT 5 rfl (by kernel_rfl) (fun _ _ _ => id) rfl (fun _ _ => by go_simp <;> with_reducible rfl) zH ?_
 simp only [Act.put, zA, zB, zC]
 refine zT 6 rfl (by kernel_rfl) (fun _ _ _ => id) rfl (fun wx hS => by have hc0 : wx.cell? ⟨w.heap.size, 3, none⟩ = some (.int .i64 (v 3)) := row_c hS 3 (by omega); have hc1 : wx.cell? ⟨w.heap.size, 4, none⟩ = some (.int .i64 (v 4)) := row_c hS 4 (by omega); have hc2 : wx.cell? ⟨w.heap.size, 5, none⟩ = some (.int .i64 (v 5)) := row_c hS 5 (by omega); go_simp <;> with_reducible rfl) zH ?_
 simp only [Act.put, zA, zB, zC]
 refine zK 3 (by kernel_rfl) rfl (fun K hK => ?_)
 go_simp
 refine (vUnit_any b bad ((v 0), (v 1), (v 2)) _ ((hw.alloc _).alloc _).drew).mono ?_
 rintro e w1 ⟨rfl, f1, k1⟩
 generalize e1 : vUnitS bad ((v 0), (v 1), (v 2)) = r1 at f1 ⊢
 have E1 : Hid _ := e1
 clear e1
 have K1 : Kept b w w1 := Kept.trans (((Kept.refl b w).al _).al _).drew k1
 have B0_1 := ((Arr_at _ w.heap.size (row 6 v) _ (by simp)).alloc _).drew.kept k1 (zG y1_BF)
 have B1_1 := (Arr_at _ (w.heap.size + 1) [.int .i64 0, .int .i64 0, .int .i64 0, .int .i64 0, .int .i64 0, .int .i64 0] _ (by simp)).drew.kept k1 (zG y2_BF)
 have z1 := B1_1.lies
 clear zH
 refine hK.out _ _ B0_1 (fun zH => ?_)
 clear hK K k1
 refine zK 7 (by kernel_rfl) rfl (fun K hK => ?_)
 go_simp
 refine (vUnit_any b r1.2 ((v 3), (v 4), (v 5)) _ f1).mono ?_
 rintro e w2 ⟨rfl, f2, k2⟩
 generalize e2 : vUnitS r1.2 ((v 3), (v 4), (v 5)) = r2 at f2 ⊢
 have E2 : Hid _ := e2
 clear e2
 have K2 := Kept.trans K1 k2
 have B0_2 := B0_1.kept k2 (zG y1_BF)
 have B1_2 := B1_1.kept k2 (zG y2_BF)
 have z2 := B1_2.lies
 clear zH
 refine hK.out _ _ B0_2 (fun zH => ?_)
 clear hK K K1 f1 B0_1 B1_1 k2
 refine zT 8 rfl (by kernel_rfl) (fun _ _ _ => id) rfl (fun _ _ => by go_simp <;> with_reducible rfl) zH ?_
 simp only [Act.put, zA, zB, zC]
 refine zK 9 (by kernel_rfl) rfl (fun K hK => ?_)
 have c2_B1_0 : w2.cell? ⟨w.heap.size + 1, 0, none⟩ = some (.int .i64 0) := B1_2.c 0 (zD rfl)
 have c2_B1_1 : w2.cell? ⟨w.heap.size + 1, 1, none⟩ = some (.int .i64 0) := B1_2.c 1 (zD rfl)
 have c2_B1_2 : w2.cell? ⟨w.heap.size + 1, 2, none⟩ = some (.int .i64 0) := B1_2.c 2 (zD rfl)
 have c2_B1_3 : w2.cell? ⟨w.heap.size + 1, 3, none⟩ = some (.int .i64 0) := B1_2.c 3 (zD rfl)
 have c2_B1_4 : w2.cell? ⟨w.heap.size + 1, 4, none⟩ = some (.int .i64 0) := B1_2.c 4 (zD rfl)
 have c2_B1_5 : w2.cell? ⟨w.heap.size + 1, 5, none⟩ = some (.int .i64 0) := B1_2.c 5 (zD rfl)
 have g2_B1_0 := B1_2.f 0 (zD rfl)
 have g2_B1_1 := B1_2.f 1 (zD rfl)
 have g2_B1_2 := B1_2.f 2 (zD rfl)
 have g2_B1_3 := B1_2.f 3 (zD rfl)
 have g2_B1_4 := B1_2.f 4 (zD rfl)
 have g2_B1_5 := B1_2.f 5 (zD rfl)
 go_simp
 clear zH
 refine hK.out _ _ ((((((B0_2.new (w.heap.size + 1) 0 (zL y2_B0) (.int .i64 r1.1.1)).new (w.heap.size + 1) 1 (zL y2_B0) (.int .i64 r1.1.2.1)).new (w.heap.size + 1) 2 (zL y2_B0) (.int .i64 r1.1.2.2)).new (w.heap.size + 1) 3 (zL y2_B0) (.int .i64 r2.1.1)).new (w.heap.size + 1) 4 (zL y2_B0) (.int .i64 r2.1.2.1)).new (w.heap.size + 1) 5 (zL y2_B0) (.int .i64 r2.1.2.2)) (fun zH => ?_)
 clear hK K c2_B1_0 c2_B1_1 c2_B1_2 c2_B1_3 c2_B1_4 c2_B1_5 g2_B1_0 g2_B1_1 g2_B1_2 g2_B1_3 g2_B1_4 g2_B1_5
 refine wpAnyH_done (by kernel_rfl) ?_ _
 clear zH
 go_wp2_with (with_reducible refine post_stop ?_)
 refine Stop.mk ?_
 refine bodyPost_ret (v := .agg #[.int .i64 r1.1.1, .int .i64 r1.1.2.1, .int .i64 r1.1.2.2, .int .i64 r2.1.1, .int .i64 r2.1.2.1, .int .i64 r2.1.2.2]) (results_arr Try.results34 ((((((B1_2.put 0 (zD rfl) (.int .i64 r1.1.1) [.int .i64 r1.1.1, .int .i64 0, .int .i64 0, .int .i64 0, .int .i64 0, .int .i64 0] rfl).put 1 (zD rfl) (.int .i64 r1.1.2.1) [.int .i64 r1.1.1, .int .i64 r1.1.2.1, .int .i64 0, .int .i64 0, .int .i64 0, .int .i64 0] rfl).put 2 (zD rfl) (.int .i64 r1.1.2.2) [.int .i64 r1.1.1, .int .i64 r1.1.2.1, .int .i64 r1.1.2.2, .int .i64 0, .int .i64 0, .int .i64 0] rfl).put 3 (zD rfl) (.int .i64 r2.1.1) [.int .i64 r1.1.1, .int .i64 r1.1.2.1, .int .i64 r1.1.2.2, .int .i64 r2.1.1, .int .i64 0, .int .i64 0] rfl).put 4 (zD rfl) (.int .i64 r2.1.2.1) [.int .i64 r1.1.1, .int .i64 r1.1.2.1, .int .i64 r1.1.2.2, .int .i64 r2.1.1, .int .i64 r2.1.2.1, .int .i64 0] rfl).put 5 (zD rfl) (.int .i64 r2.1.2.2) [.int .i64 r1.1.1, .int .i64 r1.1.2.1, .int .i64 r1.1.2.2, .int .i64 r2.1.1, .int .i64 r2.1.2.1, .int .i64 r2.1.2.2] rfl) rfl (by kernel_rfl) (by kernel_rfl)) rfl ?_
 have hs : hunitsS bad v = ((r1.1.1, r1.1.2.1, r1.1.2.2, r2.1.1, r2.1.2.1, r2.1.2.2), r2.2) := by unfold hunitsS; simp only [E1.out, E2.out]
 rw [hs]
 exact ⟨rfl, ((((((f2.new (w.heap.size + 1) 0 (zL y2_BF) (.int .i64 r1.1.1)).new (w.heap.size + 1) 1 (zL y2_BF) (.int .i64 r1.1.2.1)).new (w.heap.size + 1) 2 (zL y2_BF) (.int .i64 r1.1.2.2)).new (w.heap.size + 1) 3 (zL y2_BF) (.int .i64 r2.1.1)).new (w.heap.size + 1) 4 (zL y2_BF) (.int .i64 r2.1.2.1)).new (w.heap.size + 1) 5 (zL y2_BF) (.int .i64 r2.1.2.2)), ((((((K2.new _ _ (by omega) _).new _ _ (by omega) _).new _ _ (by omega) _).new _ _ (by omega) _).new _ _ (by omega) _).new _ _ (by omega) _)⟩
end Go.Proofs.Ytooehgijllihdaa
namespace Go.Proofs.Ytooehgijllihdaa
open Go.RowKit
set_option maxRecDepth 100000
set_option maxHeartbeats 20000000
theorem hevened_any (b : Nat) (bad : Bool) (m : Nat → Int) (w : World) (hw : Fl b bad w) :
  Calls Try.prog 74 #[.pointer (some ⟨b, 0, none⟩), .agg (row 36 m).toArray] w fun e w' => e = .returned (.agg (row 36 ((hevenedS bad m).1)).toArray) ∧ Fl b (hevenedS bad m).2 w' ∧ Kept b w w' := by
 have hl := hw.lies
 go_enter Try.func74, Try.ntmps74
 have y1_BF := hw.lies
 have y2_BF : b < w.heap.size + 1 := (Nat.lt_succ_of_lt hw.lies)
 have y2_B0 : w.heap.size < w.heap.size + 1 := by omega
 have y3_BF : b < w.heap.size + 1 + 1 := (Nat.lt_succ_of_lt (Nat.lt_succ_of_lt hw.lies))
 have y3_B0 : w.heap.size < w.heap.size + 1 + 1 := by omega
 have y3_B1 : w.heap.size + 1 < w.heap.size + 1 + 1 := by omega
 go_wp2_with fail
 obtain ⟨J0, hJ0⟩ : ∃ J : Nat → Act → World → Prop, Hid (J = fun i a Wl0 => ∀ G_ : Prop, (∀ (s0 : (Nat → Int) × Bool) (A0 C0 : Nat → Value), Hid (hevenedS_l0 m ((fun _ => 0), bad) i = s0) → a = { tmps := #[.pointer (some ⟨b, 0, none⟩), A0 1, A0 2, .pointer (some ⟨w.heap.size, 0, none⟩), .pointer (some ⟨w.heap.size + 1, 0, none⟩), .pointer (some ⟨w.heap.size + 1 + 1, 0, none⟩), A0 6, A0 7, .int .i64 (i : Int), A0 9, A0 10, A0 11, A0 12, A0 13, A0 14, A0 15, A0 16, A0 17, A0 18, A0 19, C0 0, C0 1, C0 2, C0 3, C0 4, C0 5, C0 6, C0 7, C0 8, C0 9, C0 10, C0 11, C0 12, C0 13, C0 14], defers := [] } → Kept b w Wl0 → Fl b s0.2 Wl0 → Arr w.heap.size (row 36 m) Wl0 → Arr (w.heap.size + 1) (row 36 (fun _ => 0)) Wl0 → Arr (w.heap.size + 1 + 1) (row 36 s0.1) Wl0 → G_) → G_) := ⟨_, rfl⟩
 refine rounds_up J0 6 ?_ ?_ ?_
 ·refine give_act (fun a_ ea_ => ?_)
  rw [hJ0.out]
  intro G_ hG_
  exact hG_ ((fun _ => 0), bad) (zS a_ 0) (zS a_ 20) rfl (by subst ea_; rfl) ((((Kept.refl b w).al _).al _).al _) (((hw.alloc _).alloc _).alloc _) (((Arr_at _ _ (row 36 m) _ (by simp)).alloc _).alloc _) ((Arr_at _ _ (row 36 (fun _ => 0)) _ (by simp)).alloc _) (Arr_at _ _ (row 36 (fun _ => 0)) _ (by simp))
 ·intro i a Wl0 hi hI R hR
  rw [hJ0.out] at hI
  refine hI _ ?_
  clear hI
  intro s0 A0 C0 El0 ea Kl0 BF_l0 B0_l0 B1_l0 B2_l0
  subst ea
  have zl0_BF := BF_l0.lies
  have zl0_B0 := B0_l0.lies
  have zl0_B1 := B1_l0.lies
  have zl0_B2 := B2_l0.lies
  go_wp2_with fail
  obtain ⟨J1, hJ1⟩ : ∃ J : Nat → Act → World → Prop, Hid (J = fun j a Wl1 => ∀ G_ : Prop, (∀ (s1 : (Nat → Int) × Bool) (A1 C1 : Nat → Value), Hid (hevenedS_l1 m i (s0.1, s0.2) j = s1) → a = { tmps := #[.pointer (some ⟨b, 0, none⟩), A1 1, A1 2, .pointer (some ⟨w.heap.size, 0, none⟩), .pointer (some ⟨w.heap.size + 1, 0, none⟩), .pointer (some ⟨w.heap.size + 1 + 1, 0, none⟩), .int .i64 (i : Int), A1 7, .int .i64 (i : Int), A1 9, A1 10, .int .i64 (j : Int), A1 12, A1 13, A1 14, A1 15, A1 16, A1 17, A1 18, A1 19, C1 0, C1 1, C1 2, C1 3, C1 4, C1 5, C1 6, C1 7, C1 8, C1 9, C1 10, C1 11, C1 12, C1 13, C1 14], defers := [] } → Kept b w Wl1 → Fl b s1.2 Wl1 → Arr w.heap.size (row 36 m) Wl1 → Arr (w.heap.size + 1) (row 36 (fun _ => 0)) Wl1 → Arr (w.heap.size + 1 + 1) (row 36 s1.1) Wl1 → G_) → G_) := ⟨_, rfl⟩
  refine rounds_up J1 6 ?_ ?_ ?_
  ·refine give_act (fun a_ ea_ => ?_)
   rw [hJ1.out]
   intro G_ hG_
   exact hG_ (s0.1, s0.2) (zS a_ 0) (zS a_ 20) rfl (by subst ea_; rfl) Kl0 BF_l0 B0_l0 B1_l0 B2_l0
  ·intro j a Wl1 hj hI R hR
   rw [hJ1.out] at hI
   refine hI _ ?_
   clear hI
   intro s1 A1 C1 El1 ea Kl1 BF_l1 B0_l1 B1_l1 B2_l1
   subst ea
   have zl1_BF := BF_l1.lies
   have zl1_B0 := B0_l1.lies
   have zl1_B1 := B1_l1.lies
   have zl1_B2 := B2_l1.lies
   go_wp2_with fail
   refine wp_region_held_drew (S := fun w' => Arr w.heap.size (row 36 m) w') (by kernel_rfl) B0_l1.drew (fun zH => ?_)
   refine zT 0 rfl (by kernel_rfl) (fun _ _ _ => id) rfl (fun _ _ => by go_simp <;> with_reducible rfl) zH ?_
   simp only [Act.put, zA, zB, zC]
   refine zT 1 rfl (by kernel_rfl) (fun _ _ _ => id) rfl (fun _ _ => by go_simp <;> with_reducible rfl) zH ?_
   simp only [Act.put, zA, zB, zC]
   refine zT 2 rfl (by kernel_rfl) (fun _ _ _ => id) rfl (fun _ _ => by go_simp <;> with_reducible rfl) zH ?_
   simp only [Act.put, zA, zB, zC]
   refine zT 3 rfl (by kernel_rfl) (fun _ _ _ => id) rfl (fun _ _ => by go_simp <;> with_reducible rfl) zH ?_
   simp only [Act.put, zA, zB, zC]
   refine zT 4 rfl (by kernel_rfl) (fun _ _ _ => id) rfl (fun _ _ => by go_simp <;> with_reducible rfl) zH ?_
   simp only [Act.put, zA, zB, zC]
   refine zT 5 rfl (by kernel_rfl) (fun _ _ _ => id) rfl (fun _ _ => by go_simp <;> with_reducible rfl) zH ?_
   simp only [Act.put, zA, zB, zC]
   refine zT 6 rfl (by kernel_rfl) (fun _ _ _ => id) rfl (fun _ _ => by have hi0 : (i : Int) < 6 := (by omega); go_simp <;> with_reducible rfl) zH ?_
   simp only [Act.put, zA, zB, zC]
   refine zT 7 rfl (by kernel_rfl) (fun _ _ _ => id) rfl (fun _ _ => by have hi0 : (j : Int) < 6 := (by omega); go_simp <;> with_reducible rfl) zH ?_
   simp only [Act.put, zA, zB, zC]
   refine zT 8 rfl (by kernel_rfl) (fun _ _ _ => id) rfl (fun wx hS => by have hc0 : wx.cell? ⟨w.heap.size, i * 6 + j, none⟩ = some (.int .i64 (m (i * 6 + j))) := row_c hS (i * 6 + j) (by omega); go_simp <;> with_reducible rfl) zH ?_
   simp only [Act.put, zA, zB, zC]
   refine zT 9 rfl (by kernel_rfl) (fun _ _ _ => id) rfl (fun _ _ => by go_simp <;> with_reducible rfl) zH ?_
   simp only [Act.put, zA, zB, zC]
   refine zT 10 rfl (by kernel_rfl) (fun _ _ _ => id) rfl (fun _ _ => by go_simp <;> with_reducible rfl) zH ?_
   simp only [Act.put, zA, zB, zC]
   refine zT 11 rfl (by kernel_rfl) (fun _ _ _ => id) rfl (fun _ _ => by have hi0 : (j : Int) < 6 := (by omega); go_simp <;> with_reducible rfl) zH ?_
   simp only [Act.put, zA, zB, zC]
   refine zT 12 rfl (by kernel_rfl) (fun _ _ _ => id) rfl (fun _ _ => by have hi0 : (i : Int) < 6 := (by omega); go_simp <;> with_reducible rfl) zH ?_
   simp only [Act.put, zA, zB, zC]
   refine zT 13 rfl (by kernel_rfl) (fun _ _ _ => id) rfl (fun wx hS => by have hc0 : wx.cell? ⟨w.heap.size, j * 6 + i, none⟩ = some (.int .i64 (m (j * 6 + i))) := row_c hS (j * 6 + i) (by omega); go_simp <;> with_reducible rfl) zH ?_
   simp only [Act.put, zA, zB, zC]
   refine zT 16 rfl (by kernel_rfl) (fun _ _ _ => id) rfl (fun _ _ => by have hi0 : (i : Int) < 6 := (by omega); go_simp <;> with_reducible rfl) zH ?_
   simp only [Act.put, zA, zB, zC]
   refine zK 14 (by kernel_rfl) rfl (fun K hK => ?_)
   go_simp
   refine (Add_any b s1.2 (m (i * 6 + j)) (m (j * 6 + i)) _ BF_l1.drew).mono ?_
   rintro e w1 ⟨rfl, f1, k1⟩
   generalize e1 : addS s1.2 (m (i * 6 + j)) (m (j * 6 + i)) = r1 at f1 ⊢
   have E1 : Hid _ := e1
   clear e1
   have K1 : Kept b w w1 := Kept.trans Kl1.drew k1
   have B0_1 := B0_l1.drew.kept k1 (zG y1_BF)
   have B1_1 := B1_l1.drew.kept k1 (zG y2_BF)
   have B2_1 := B2_l1.drew.kept k1 (zG y3_BF)
   have z1 := B2_1.lies
   clear zH
   refine hK.out _ _ B0_1 (fun zH => ?_)
   clear hK K BF_l1 B0_l1 B1_l1 B2_l1 k1
   refine zK 15 (by kernel_rfl) rfl (fun K hK => ?_)
   go_simp
   refine (Part_any b r1.2 r1.1 1 2 _ f1).mono ?_
   rintro e w2 ⟨rfl, f2, k2⟩
   generalize e2 : partS r1.2 r1.1 1 2 = r2 at f2 ⊢
   have E2 : Hid _ := e2
   clear e2
   have K2 := Kept.trans K1 k2
   have B0_2 := B0_1.kept k2 (zG y1_BF)
   have B1_2 := B1_1.kept k2 (zG y2_BF)
   have B2_2 := B2_1.kept k2 (zG y3_BF)
   have z2 := B2_2.lies
   clear zH
   refine hK.out _ _ B0_2 (fun zH => ?_)
   clear hK K K1 f1 B0_1 B1_1 B2_1 k2
   refine zT 17 rfl (by kernel_rfl) (fun _ _ _ => id) rfl (fun _ _ => by have hi0 : (j : Int) < 6 := (by omega); go_simp <;> with_reducible rfl) zH ?_
   simp only [Act.put, zA, zB, zC]
   refine zK 18 (by kernel_rfl) rfl (fun K hK => ?_)
   have c4_B2_0 : w2.cell? ⟨w.heap.size + 1 + 1, i * 6 + j, none⟩ = some (.int .i64 (s1.1 (i * 6 + j))) := row_c B2_2 (i * 6 + j) (by omega)
   have g4_B2_1 := row_f B2_2 (i * 6 + j) (by omega)
   go_simp
   clear zH
   refine hK.out _ _ (B0_2.new (w.heap.size + 1 + 1) (i * 6 + j) (zL y3_B0) (.int .i64 r2.1)) (fun zH => ?_)
   clear hK K c4_B2_0 g4_B2_1
   refine wpAnyH_done (by kernel_rfl) ?_ _
   clear zH
   go_wp2_with fail
   have hs1 : Hid (hevenedS_l1 m i (s0.1, s0.2) (j + 1) = ((updF s1.1 (i * 6 + j) r2.1), r2.2)) := by show _ = _; rw [hevenedS_l1_succ]; unfold hevenedS_l1s; simp only [El1.out, E1.out, E2.out]
   refine give_act (fun a_ ea_ => ?_)
   rw [hJ1.out]
   intro G_ hG_
   exact hG_ ((updF s1.1 (i * 6 + j) r2.1), r2.2) (zS a_ 0) (zS a_ 20) hs1 (by subst ea_; rfl) (K2.new _ _ (by omega) _) (f2.new (w.heap.size + 1 + 1) (i * 6 + j) (zL y3_BF) (.int .i64 r2.1)) (B0_2.new (w.heap.size + 1 + 1) (i * 6 + j) (zL y3_B0) (.int .i64 r2.1)) (B1_2.new (w.heap.size + 1 + 1) (i * 6 + j) (zL y3_B1) (.int .i64 r2.1)) (row_put B2_2 (i * 6 + j) (by omega) r2.1)
  ·intro a Wl1 hI R
   rw [hJ1.out] at hI
   refine hI _ ?_
   clear hI hJ1
   intro r3 A1 C1 E3 ea Kl1 BF_l1 B0_l1 B1_l1 B2_l1
   subst ea
   have zl1_BF := BF_l1.lies
   have zl1_B0 := B0_l1.lies
   have zl1_B1 := B1_l1.lies
   have zl1_B2 := B2_l1.lies
   go_wp2_with fail
   have hs0 : Hid (hevenedS_l0 m ((fun _ => 0), bad) (i + 1) = (r3.1, r3.2)) := by show _ = _; rw [hevenedS_l0_succ]; unfold hevenedS_l0s; simp only [El0.out, E3.out]
   refine give_act (fun a_ ea_ => ?_)
   rw [hJ0.out]
   intro G_ hG_
   exact hG_ (r3.1, r3.2) (zS a_ 0) (zS a_ 20) hs0 (by subst ea_; rfl) Kl1 BF_l1 B0_l1 B1_l1 B2_l1
 ·intro a Wl0 hI R
  rw [hJ0.out] at hI
  refine hI _ ?_
  clear hI hJ0
  intro r1 A0 C0 E1 ea Kl0 BF_l0 B0_l0 B1_l0 B2_l0
  subst ea
  have zl0_BF := BF_l0.lies
  have zl0_B0 := B0_l0.lies
  have zl0_B1 := B1_l0.lies
  have zl0_B2 := B2_l0.lies
  go_wp2_with (first | (refine row_load (ty := 36) rfl rfl rfl B2_l0 (by kernel_rfl) (by rw [row_len]; kernel_rfl) ?_) | (refine store_stop rfl (by kernel_rfl) ?_))
  refine Stop.mk (store_row (l' := row 36 r1.1) rfl rfl rfl rfl B1_l0 (by simp only [row_len]) (by rw [row_len]; kernel_rfl) (row_one _ _) ?_)
  intro w2 B1_2 o2
  have K2 : Kept b w w2 := Kept.off Kl0 o2 (by omega)
  have BF_2 := BF_l0.off o2 (zL y2_BF)
  have B2_2 := B2_l0.off o2 (zG y3_B1)
  have z2_B1 := B1_2.lies
  have z2_BF := BF_2.lies
  have z2_B2 := B2_2.lies
  clear B1_l0 BF_l0 B2_l0 o2
  go_wp2_with (with_reducible refine post_stop ?_)
  refine Stop.mk ?_
  refine bodyPost_ret (v := .agg (row 36 r1.1).toArray) (results_arr Try.results74 B1_2 rfl (by kernel_rfl) (by rw [row_len]; kernel_rfl)) rfl ?_
  have hs : hevenedS bad m = (r1.1, r1.2) := by unfold hevenedS; simp only [E1.out]
  rw [hs]
  exact ⟨rfl, BF_2, K2⟩
end Go.Proofs.Ytooehgijllihdaa
