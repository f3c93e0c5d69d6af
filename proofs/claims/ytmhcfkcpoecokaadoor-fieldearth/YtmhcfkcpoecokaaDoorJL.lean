/-
  What the reference's Earth answers, at all places and ticks, for the seat YtmhcfkcpoecokaaDoor.
  The walk of the reference's Sky, for the seat YtmhcfkcpoecokaaDoor. (Made by mkfield.py.)
  What the reference's Sky answers, at all places and ticks, for the seat YtmhcfkcpoecokaaDoor.
-/
import Derived.Test.YtmhcfkcpoecokaaDoorJH
import Derived.Test.YtmhcfkcpoecokaaDoorHEarthN
import Derived.Test.YtmhcfkcpoecokaaDoorHEarthF
import Derived.Test.YtmhcfkcpoecokaaDoorJK
import Derived.Test.YtmhcfkcpoecokaaDoorJB
import Derived.Test.YtmhcfkcpoecokaaDoorJG
import Derived.Test.YtmhcfkcpoecokaaDoorJE
import Derived.Handy
import Derived.Deep.RegionHeld3
namespace Go.Proofs.YtmhcfkcpoecokaaDoor
open Go.RowKit

theorem lonS_far {p : V3} {w u v : Int} (h : lonS false p w = ((u, v), false)) (c : ¬ w < 1048576) : divS false p.1 w = (u, false) ∧ divS false p.2.1 w = (v, false) := by
  unfold lonS at h
  rw [if_neg c] at h
  have b1 : (divS false p.1 w).2 = false := by
    cases e : (divS false p.1 w).2 with
    | false => rfl
    | true => rw [e, divS_true] at h; exact absurd (show true = false from congrArg Prod.snd h) (by decide)
  rw [b1] at h
  exact ⟨Prod.ext (congrArg (fun z => z.1.1) h) b1, Prod.ext (congrArg (fun z => z.1.2) h) (congrArg (fun z => z.2) h)⟩
theorem rearth_any (b : Nat) (bad : Bool) (p : V3) (t : Int) (w : World) (hw : Fl b bad w) :
    Calls Tryd.prog 12 #[.pointer (some ⟨b, 0, none⟩), .agg #[.int .i64 p.1, .int .i64 p.2.1, .int .i64 p.2.2], .int .i64 t] w fun e w' => e = .returned (.agg #[.int .i64 (earS bad p t).1.1, .int .i64 (earS bad p t).1.2.1, .int .i64 (earS bad p t).1.2.2]) ∧ Fl b (earS bad p t).2 w' ∧ Kept b w w' := by
  cases bad with
  | true =>
    rw [earS_true]
    exact rearth_ba b true true p t 0 w hw (vNorm_true p) (by decide)
  | false =>
    by_cases h : earIn p t
    · obtain ⟨⟨E⟩, _⟩ := ear_at h
      rw [earS_in h]
      obtain ⟨g, r0, r1, t0, t1⟩ := h
      have hr : vNormS false p = ((earR p).1, false) := Prod.ext rfl g
      by_cases c : E.wn < 1048576
      · have hl := E.hl
        unfold lonS at hl
        rw [if_pos c] at hl
        simp only [Prod.mk.injEq, and_true] at hl
        exact rearth_near b p t _ _ _ _ _ E w hw hr (cDaysS_in t0 t1) (by omega) (by omega) c hl.1.symm hl.2.symm
      · obtain ⟨hu, hv⟩ := lonS_far E.hl c
        exact rearth_far b p t _ _ _ _ _ E w hw hr (cDaysS_in t0 t1) (by omega) (by omega) c hu hv
    · rw [earS_out h]
      have e : vNormS false p = ((earR p).1, (earR p).2) := rfl
      by_cases c1 : (earR p).1 < 6597069766656
      · exact rearth_ba b false _ p t _ w hw e c1
      by_cases c2 : (earR p).1 > 10995116277760
      · exact rearth_bb b false _ p t _ w hw e c1 c2
      have g : (earR p).2 = false := by
        cases q : (earR p).2 with
        | false => rfl
        | true => have z : (earR p).1 = 0 := normS_bad false _ _ _ q; omega
      exact rearth_bc b false _ p t _ w hw e c1 c2 (by rw [g]; exact cDaysS_out false (fun k => h ⟨g, by omega, by omega, k.1, k.2⟩))
end Go.Proofs.YtmhcfkcpoecokaaDoor
namespace Go.Proofs.YtmhcfkcpoecokaaDoor
open Go.RowKit

set_option maxRecDepth 100000 in
set_option maxHeartbeats 2000000 in
theorem rskyR_any (b : Nat) (bad : Bool) (p : V3) (t : Int) (w : World) (hw : Fl b bad w) :
    Calls Tryd.prog 14 #[.pointer (some ⟨b, 0, none⟩), .agg #[.int .i64 p.1, .int .i64 p.2.1, .int .i64 p.2.2], .int .i64 t] w fun e w' => e = .returned (.agg #[.int .i64 ((skyR bad p t).1.1), .int .i64 ((skyR bad p t).1.2.1), .int .i64 ((skyR bad p t).1.2.2)]) ∧ Fl b (skyR bad p t).2 w' ∧ Kept b w w' := by
  have hl := hw.lies
  go_enter Tryd.func14, Tryd.ntmps14
  have y1_BF : b < w.heap.size := hw.lies
  have y2_BF : b < w.heap.size + 1 := (Nat.lt_succ_of_lt hw.lies)
  have y2_B0 : w.heap.size < w.heap.size + 1 := (Nat.lt_succ_self _)
  go_wp2_with fail
  refine (dTurn_any b bad t _ ((hw.alloc _).alloc _)).mono ?_
  rintro e w1 ⟨rfl, f1, k1⟩
  generalize e1 : cTurnS bad t = r1 at f1 ⊢
  have E1 : Hid _ := e1
  clear e1
  have K1 : Kept b w w1 := Kept.trans (((Kept.refl b w).al _).al _) k1
  have B0_1 := ((Arr_at _ _ [.int .i64 p.1, .int .i64 p.2.1, .int .i64 p.2.2] _ (by simp)).alloc _).kept k1 (Nat.ne_of_gt y1_BF)
  have B1_1 := (Arr_at _ _ [.int .i64 0, .int .i64 0, .int .i64 0] _ (by simp)).kept k1 (Nat.ne_of_gt y2_BF)
  have z1 := B1_1.lies
  clear k1
  go_wp2_with fail
  refine (rCos_any b r1.2 r1.1 _ f1).mono ?_
  rintro e w2 ⟨rfl, f2, k2⟩
  generalize e2 : cosA r1.2 r1.1 = r2 at f2 ⊢
  have E2 : Hid _ := e2
  clear e2
  have K2 : Kept b w w2 := Kept.trans K1 k2
  have B0_2 := B0_1.kept k2 (Nat.ne_of_gt y1_BF)
  have B1_2 := B1_1.kept k2 (Nat.ne_of_gt y2_BF)
  have z2 := B1_2.lies
  clear K1 f1 B0_1 B1_1 k2
  go_wp2_with fail
  refine (rSin_any b r2.2 r1.1 _ f2).mono ?_
  rintro e w3 ⟨rfl, f3, k3⟩
  generalize e3 : sinA r2.2 r1.1 = r3 at f3 ⊢
  have E3 : Hid _ := e3
  clear e3
  have K3 : Kept b w w3 := Kept.trans K2 k3
  have B0_3 := B0_2.kept k3 (Nat.ne_of_gt y1_BF)
  have B1_3 := B1_2.kept k3 (Nat.ne_of_gt y2_BF)
  have z3 := B1_3.lies
  clear K2 f2 B0_2 B1_2 k3
  go_wp2_with fail
  refine wp_region_held_drew (S := fun w' => Arr w.heap.size [.int .i64 p.1, .int .i64 p.2.1, .int .i64 p.2.2] w') (by kernel_rfl) B0_3.drew (fun hHeld => ?_)
  refine take_at (i := 0) (v := ?v1) rfl (by kernel_rfl) (by kernel_rfl) (by kernel_rfl) (fun _ _ _ h => h) (Or.inl ⟨by rfl, ?y1⟩) hHeld ?t1
  case y1 => (intro wx hSw; go_simp <;> with_reducible rfl)
  simp only [Act.put, List.setIfInBounds_toArray, List.set_cons_zero, List.set_cons_succ]
  refine take_at (i := 1) (v := ?v2) rfl (by kernel_rfl) (by kernel_rfl) (by kernel_rfl) (fun _ _ _ h => h) (Or.inl ⟨by rfl, ?y2⟩) hHeld ?t2
  case y2 => (intro wx hSw; go_simp <;> with_reducible rfl)
  simp only [Act.put, List.setIfInBounds_toArray, List.set_cons_zero, List.set_cons_succ]
  refine take_at (i := 2) (v := ?v3) rfl (by kernel_rfl) (by kernel_rfl) (by kernel_rfl) (fun _ _ _ h => h) (Or.inl ⟨by rfl, ?y3⟩) hHeld ?t3
  case y3 => (intro wx hSw; go_simp <;> with_reducible rfl)
  simp only [Act.put, List.setIfInBounds_toArray, List.set_cons_zero, List.set_cons_succ]
  refine take_at (i := 3) (v := ?v4) rfl (by kernel_rfl) (by kernel_rfl) (by kernel_rfl) (fun _ _ _ h => h) (Or.inl ⟨by rfl, ?y4⟩) hHeld ?t4
  case y4 => (intro wx hSw; have hc0 : wx.cell? ⟨w.heap.size, 0, none⟩ = some (.int .i64 p.1) := hSw.c 0 (of_decide_eq_true rfl); go_simp <;> with_reducible rfl)
  simp only [Act.put, List.setIfInBounds_toArray, List.set_cons_zero, List.set_cons_succ]
  refine take_at (i := 4) (v := ?v5) rfl (by kernel_rfl) (by kernel_rfl) (by kernel_rfl) (fun _ _ _ h => h) (Or.inl ⟨by rfl, ?y5⟩) hHeld ?t5
  case y5 => (intro wx hSw; go_simp <;> with_reducible rfl)
  simp only [Act.put, List.setIfInBounds_toArray, List.set_cons_zero, List.set_cons_succ]
  refine take_at (i := 6) (v := ?v6) rfl (by kernel_rfl) (by kernel_rfl) (by kernel_rfl) (fun _ _ _ h => h) (Or.inl ⟨by rfl, ?y6⟩) hHeld ?t6
  case y6 => (intro wx hSw; go_simp <;> with_reducible rfl)
  simp only [Act.put, List.setIfInBounds_toArray, List.set_cons_zero, List.set_cons_succ]
  refine take_at (i := 7) (v := ?v7) rfl (by kernel_rfl) (by kernel_rfl) (by kernel_rfl) (fun _ _ _ h => h) (Or.inl ⟨by rfl, ?y7⟩) hHeld ?t7
  case y7 => (intro wx hSw; go_simp <;> with_reducible rfl)
  simp only [Act.put, List.setIfInBounds_toArray, List.set_cons_zero, List.set_cons_succ]
  refine take_at (i := 8) (v := ?v8) rfl (by kernel_rfl) (by kernel_rfl) (by kernel_rfl) (fun _ _ _ h => h) (Or.inl ⟨by rfl, ?y8⟩) hHeld ?t8
  case y8 => (intro wx hSw; have hc1 : wx.cell? ⟨w.heap.size, 1, none⟩ = some (.int .i64 p.2.1) := hSw.c 1 (of_decide_eq_true rfl); go_simp <;> with_reducible rfl)
  simp only [Act.put, List.setIfInBounds_toArray, List.set_cons_zero, List.set_cons_succ]
  refine take_at (i := 9) (v := ?v9) rfl (by kernel_rfl) (by kernel_rfl) (by kernel_rfl) (fun _ _ _ h => h) (Or.inl ⟨by rfl, ?y9⟩) hHeld ?t9
  case y9 => (intro wx hSw; go_simp <;> with_reducible rfl)
  simp only [Act.put, List.setIfInBounds_toArray, List.set_cons_zero, List.set_cons_succ]
  refine call_at (i := 5) (by kernel_rfl) rfl (fun K hK => ?_)
  go_simp
  refine (rMul_any b r3.2 p.1 r2.1 _ f3.drew).mono ?_
  rintro e w4 ⟨rfl, f4, k4⟩
  generalize e4 : mulS r3.2 p.1 r2.1 = r4 at f4 ⊢
  have E4 : Hid _ := e4
  clear e4
  have K4 : Kept b w w4 := Kept.trans K3.drew k4
  have B0_4 := B0_3.drew.kept k4 (Nat.ne_of_gt y1_BF)
  have B1_4 := B1_3.drew.kept k4 (Nat.ne_of_gt y2_BF)
  have z4 := B1_4.lies
  clear hHeld
  refine hK.out _ _ B0_4 (fun hHeld => ?_)
  clear hK K K3 f3 B0_3 B1_3 k4
  refine call_at (i := 10) (by kernel_rfl) rfl (fun K hK => ?_)
  go_simp
  refine (rMul_any b r4.2 p.2.1 r3.1 _ f4).mono ?_
  rintro e w5 ⟨rfl, f5, k5⟩
  generalize e5 : mulS r4.2 p.2.1 r3.1 = r5 at f5 ⊢
  have E5 : Hid _ := e5
  clear e5
  have K5 : Kept b w w5 := Kept.trans K4 k5
  have B0_5 := B0_4.kept k5 (Nat.ne_of_gt y1_BF)
  have B1_5 := B1_4.kept k5 (Nat.ne_of_gt y2_BF)
  have z5 := B1_5.lies
  clear hHeld
  refine hK.out _ _ B0_5 (fun hHeld => ?_)
  clear hK K K4 f4 B0_4 B1_4 k5
  refine call_at (i := 11) (by kernel_rfl) rfl (fun K hK => ?_)
  go_simp
  refine (rAdd_any b r5.2 r4.1 r5.1 _ f5).mono ?_
  rintro e w6 ⟨rfl, f6, k6⟩
  generalize e6 : addS r5.2 r4.1 r5.1 = r6 at f6 ⊢
  have E6 : Hid _ := e6
  clear e6
  have K6 : Kept b w w6 := Kept.trans K5 k6
  have B0_6 := B0_5.kept k6 (Nat.ne_of_gt y1_BF)
  have B1_6 := B1_5.kept k6 (Nat.ne_of_gt y2_BF)
  have z6 := B1_6.lies
  clear hHeld
  refine hK.out _ _ B0_6 (fun hHeld => ?_)
  clear hK K K5 f5 B0_5 B1_5 k6
  refine take_at (i := 12) (v := ?v10) rfl (by kernel_rfl) (by kernel_rfl) (by kernel_rfl) (fun _ _ _ h => h) (Or.inl ⟨by rfl, ?y10⟩) hHeld ?t10
  case y10 => (intro wx hSw; go_simp <;> with_reducible rfl)
  simp only [Act.put, List.setIfInBounds_toArray, List.set_cons_zero, List.set_cons_succ]
  refine wpAnyH_done (by kernel_rfl) ?_ _
  clear hHeld
  go_wp2_with fail
  refine wp_region_held_drew (S := fun w' => Arr w.heap.size [.int .i64 p.1, .int .i64 p.2.1, .int .i64 p.2.2] w') (by kernel_rfl) B0_6.drew (fun hHeld => ?_)
  refine take_at (i := 0) (v := ?v11) rfl (by kernel_rfl) (by kernel_rfl) (by kernel_rfl) (fun _ _ _ h => h) (Or.inl ⟨by rfl, ?y11⟩) hHeld ?t11
  case y11 => (intro wx hSw; go_simp <;> with_reducible rfl)
  simp only [Act.put, List.setIfInBounds_toArray, List.set_cons_zero, List.set_cons_succ]
  refine take_at (i := 1) (v := ?v12) rfl (by kernel_rfl) (by kernel_rfl) (by kernel_rfl) (fun _ _ _ h => h) (Or.inl ⟨by rfl, ?y12⟩) hHeld ?t12
  case y12 => (intro wx hSw; go_simp <;> with_reducible rfl)
  simp only [Act.put, List.setIfInBounds_toArray, List.set_cons_zero, List.set_cons_succ]
  refine take_at (i := 2) (v := ?v13) rfl (by kernel_rfl) (by kernel_rfl) (by kernel_rfl) (fun _ _ _ h => h) (Or.inl ⟨by rfl, ?y13⟩) hHeld ?t13
  case y13 => (intro wx hSw; go_simp <;> with_reducible rfl)
  simp only [Act.put, List.setIfInBounds_toArray, List.set_cons_zero, List.set_cons_succ]
  refine take_at (i := 3) (v := ?v14) rfl (by kernel_rfl) (by kernel_rfl) (by kernel_rfl) (fun _ _ _ h => h) (Or.inl ⟨by rfl, ?y14⟩) hHeld ?t14
  case y14 => (intro wx hSw; have hc1 : wx.cell? ⟨w.heap.size, 1, none⟩ = some (.int .i64 p.2.1) := hSw.c 1 (of_decide_eq_true rfl); go_simp <;> with_reducible rfl)
  simp only [Act.put, List.setIfInBounds_toArray, List.set_cons_zero, List.set_cons_succ]
  refine take_at (i := 4) (v := ?v15) rfl (by kernel_rfl) (by kernel_rfl) (by kernel_rfl) (fun _ _ _ h => h) (Or.inl ⟨by rfl, ?y15⟩) hHeld ?t15
  case y15 => (intro wx hSw; go_simp <;> with_reducible rfl)
  simp only [Act.put, List.setIfInBounds_toArray, List.set_cons_zero, List.set_cons_succ]
  refine take_at (i := 6) (v := ?v16) rfl (by kernel_rfl) (by kernel_rfl) (by kernel_rfl) (fun _ _ _ h => h) (Or.inl ⟨by rfl, ?y16⟩) hHeld ?t16
  case y16 => (intro wx hSw; go_simp <;> with_reducible rfl)
  simp only [Act.put, List.setIfInBounds_toArray, List.set_cons_zero, List.set_cons_succ]
  refine take_at (i := 7) (v := ?v17) rfl (by kernel_rfl) (by kernel_rfl) (by kernel_rfl) (fun _ _ _ h => h) (Or.inl ⟨by rfl, ?y17⟩) hHeld ?t17
  case y17 => (intro wx hSw; go_simp <;> with_reducible rfl)
  simp only [Act.put, List.setIfInBounds_toArray, List.set_cons_zero, List.set_cons_succ]
  refine take_at (i := 8) (v := ?v18) rfl (by kernel_rfl) (by kernel_rfl) (by kernel_rfl) (fun _ _ _ h => h) (Or.inl ⟨by rfl, ?y18⟩) hHeld ?t18
  case y18 => (intro wx hSw; have hc0 : wx.cell? ⟨w.heap.size, 0, none⟩ = some (.int .i64 p.1) := hSw.c 0 (of_decide_eq_true rfl); go_simp <;> with_reducible rfl)
  simp only [Act.put, List.setIfInBounds_toArray, List.set_cons_zero, List.set_cons_succ]
  refine take_at (i := 9) (v := ?v19) rfl (by kernel_rfl) (by kernel_rfl) (by kernel_rfl) (fun _ _ _ h => h) (Or.inl ⟨by rfl, ?y19⟩) hHeld ?t19
  case y19 => (intro wx hSw; go_simp <;> with_reducible rfl)
  simp only [Act.put, List.setIfInBounds_toArray, List.set_cons_zero, List.set_cons_succ]
  refine call_at (i := 5) (by kernel_rfl) rfl (fun K hK => ?_)
  go_simp
  refine (rMul_any b r6.2 p.2.1 r2.1 _ f6.drew).mono ?_
  rintro e w7 ⟨rfl, f7, k7⟩
  generalize e7 : mulS r6.2 p.2.1 r2.1 = r7 at f7 ⊢
  have E7 : Hid _ := e7
  clear e7
  have K7 : Kept b w w7 := Kept.trans K6.drew k7
  have B0_7 := B0_6.drew.kept k7 (Nat.ne_of_gt y1_BF)
  have B1_7 := B1_6.drew.kept k7 (Nat.ne_of_gt y2_BF)
  have z7 := B1_7.lies
  clear hHeld
  refine hK.out _ _ B0_7 (fun hHeld => ?_)
  clear hK K K6 f6 B0_6 B1_6 k7
  refine call_at (i := 10) (by kernel_rfl) rfl (fun K hK => ?_)
  go_simp
  refine (rMul_any b r7.2 p.1 r3.1 _ f7).mono ?_
  rintro e w8 ⟨rfl, f8, k8⟩
  generalize e8 : mulS r7.2 p.1 r3.1 = r8 at f8 ⊢
  have E8 : Hid _ := e8
  clear e8
  have K8 : Kept b w w8 := Kept.trans K7 k8
  have B0_8 := B0_7.kept k8 (Nat.ne_of_gt y1_BF)
  have B1_8 := B1_7.kept k8 (Nat.ne_of_gt y2_BF)
  have z8 := B1_8.lies
  clear hHeld
  refine hK.out _ _ B0_8 (fun hHeld => ?_)
  clear hK K K7 f7 B0_7 B1_7 k8
  refine call_at (i := 11) (by kernel_rfl) rfl (fun K hK => ?_)
  go_simp
  refine (rSub_any b r8.2 r7.1 r8.1 _ f8).mono ?_
  rintro e w9 ⟨rfl, f9, k9⟩
  generalize e9 : subS r8.2 r7.1 r8.1 = r9 at f9 ⊢
  have E9 : Hid _ := e9
  clear e9
  have K9 : Kept b w w9 := Kept.trans K8 k9
  have B0_9 := B0_8.kept k9 (Nat.ne_of_gt y1_BF)
  have B1_9 := B1_8.kept k9 (Nat.ne_of_gt y2_BF)
  have z9 := B1_9.lies
  clear hHeld
  refine hK.out _ _ B0_9 (fun hHeld => ?_)
  clear hK K K8 f8 B0_8 B1_8 k9
  refine take_at (i := 12) (v := ?v20) rfl (by kernel_rfl) (by kernel_rfl) (by kernel_rfl) (fun _ _ _ h => h) (Or.inl ⟨by rfl, ?y20⟩) hHeld ?t20
  case y20 => (intro wx hSw; go_simp <;> with_reducible rfl)
  simp only [Act.put, List.setIfInBounds_toArray, List.set_cons_zero, List.set_cons_succ]
  refine wpAnyH_done (by kernel_rfl) ?_ _
  clear hHeld
  have c6_B0_2 : w9.cell? ⟨w.heap.size, 2, none⟩ = some (.int .i64 p.2.2) := B0_9.c 2 (of_decide_eq_true rfl)
  go_wp2_with fail
  refine (rearth_any b r9.2 (r6.1, r9.1, p.2.2) t _ f9).mono ?_
  rintro e w10 ⟨rfl, f10, k10⟩
  generalize e10 : earS r9.2 (r6.1, r9.1, p.2.2) t = r10 at f10 ⊢
  have E10 : Hid _ := e10
  clear e10
  have K10 : Kept b w w10 := Kept.trans K9 k10
  have B0_10 := B0_9.kept k10 (Nat.ne_of_gt y1_BF)
  have B1_10 := B1_9.kept k10 (Nat.ne_of_gt y2_BF)
  have z10 := B1_10.lies
  clear c6_B0_2 K9 f9 B0_9 B1_9 k10
  have y3_BF : b < w10.heap.size := f10.lies
  have y3_B0 : w.heap.size < w10.heap.size := B0_10.lies
  have y3_B1 : w.heap.size + 1 < w10.heap.size := B1_10.lies
  go_wp2_with fail
  refine wp_region_held_drew (S := fun w' => Arr w10.heap.size [.int .i64 r10.1.1, .int .i64 r10.1.2.1, .int .i64 r10.1.2.2] w') (by kernel_rfl) (Arr_at _ _ [.int .i64 r10.1.1, .int .i64 r10.1.2.1, .int .i64 r10.1.2.2] _ (by simp)).drew (fun hHeld => ?_)
  refine take_at (i := 0) (v := ?v21) rfl (by kernel_rfl) (by kernel_rfl) (by kernel_rfl) (fun _ _ _ h => h) (Or.inl ⟨by rfl, ?y21⟩) hHeld ?t21
  case y21 => (intro wx hSw; go_simp <;> with_reducible rfl)
  simp only [Act.put, List.setIfInBounds_toArray, List.set_cons_zero, List.set_cons_succ]
  refine take_at (i := 1) (v := ?v22) rfl (by kernel_rfl) (by kernel_rfl) (by kernel_rfl) (fun _ _ _ h => h) (Or.inl ⟨by rfl, ?y22⟩) hHeld ?t22
  case y22 => (intro wx hSw; go_simp <;> with_reducible rfl)
  simp only [Act.put, List.setIfInBounds_toArray, List.set_cons_zero, List.set_cons_succ]
  refine take_at (i := 2) (v := ?v23) rfl (by kernel_rfl) (by kernel_rfl) (by kernel_rfl) (fun _ _ _ h => h) (Or.inl ⟨by rfl, ?y23⟩) hHeld ?t23
  case y23 => (intro wx hSw; go_simp <;> with_reducible rfl)
  simp only [Act.put, List.setIfInBounds_toArray, List.set_cons_zero, List.set_cons_succ]
  refine take_at (i := 3) (v := ?v24) rfl (by kernel_rfl) (by kernel_rfl) (by kernel_rfl) (fun _ _ _ h => h) (Or.inl ⟨by rfl, ?y24⟩) hHeld ?t24
  case y24 => (intro wx hSw; have hc0 : wx.cell? ⟨w10.heap.size, 0, none⟩ = some (.int .i64 r10.1.1) := hSw.c 0 (of_decide_eq_true rfl); go_simp <;> with_reducible rfl)
  simp only [Act.put, List.setIfInBounds_toArray, List.set_cons_zero, List.set_cons_succ]
  refine take_at (i := 4) (v := ?v25) rfl (by kernel_rfl) (by kernel_rfl) (by kernel_rfl) (fun _ _ _ h => h) (Or.inl ⟨by rfl, ?y25⟩) hHeld ?t25
  case y25 => (intro wx hSw; go_simp <;> with_reducible rfl)
  simp only [Act.put, List.setIfInBounds_toArray, List.set_cons_zero, List.set_cons_succ]
  refine take_at (i := 6) (v := ?v26) rfl (by kernel_rfl) (by kernel_rfl) (by kernel_rfl) (fun _ _ _ h => h) (Or.inl ⟨by rfl, ?y26⟩) hHeld ?t26
  case y26 => (intro wx hSw; go_simp <;> with_reducible rfl)
  simp only [Act.put, List.setIfInBounds_toArray, List.set_cons_zero, List.set_cons_succ]
  refine take_at (i := 7) (v := ?v27) rfl (by kernel_rfl) (by kernel_rfl) (by kernel_rfl) (fun _ _ _ h => h) (Or.inl ⟨by rfl, ?y27⟩) hHeld ?t27
  case y27 => (intro wx hSw; go_simp <;> with_reducible rfl)
  simp only [Act.put, List.setIfInBounds_toArray, List.set_cons_zero, List.set_cons_succ]
  refine take_at (i := 8) (v := ?v28) rfl (by kernel_rfl) (by kernel_rfl) (by kernel_rfl) (fun _ _ _ h => h) (Or.inl ⟨by rfl, ?y28⟩) hHeld ?t28
  case y28 => (intro wx hSw; have hc1 : wx.cell? ⟨w10.heap.size, 1, none⟩ = some (.int .i64 r10.1.2.1) := hSw.c 1 (of_decide_eq_true rfl); go_simp <;> with_reducible rfl)
  simp only [Act.put, List.setIfInBounds_toArray, List.set_cons_zero, List.set_cons_succ]
  refine take_at (i := 9) (v := ?v29) rfl (by kernel_rfl) (by kernel_rfl) (by kernel_rfl) (fun _ _ _ h => h) (Or.inl ⟨by rfl, ?y29⟩) hHeld ?t29
  case y29 => (intro wx hSw; go_simp <;> with_reducible rfl)
  simp only [Act.put, List.setIfInBounds_toArray, List.set_cons_zero, List.set_cons_succ]
  refine call_at (i := 5) (by kernel_rfl) rfl (fun K hK => ?_)
  go_simp
  refine (rMul_any b r10.2 r10.1.1 r2.1 _ (f10.alloc _).drew).mono ?_
  rintro e w11 ⟨rfl, f11, k11⟩
  generalize e11 : mulS r10.2 r10.1.1 r2.1 = r11 at f11 ⊢
  have E11 : Hid _ := e11
  clear e11
  have K11 : Kept b w w11 := Kept.trans (K10.al _).drew k11
  have B0_11 := (B0_10.alloc _).drew.kept k11 (Nat.ne_of_gt y1_BF)
  have B1_11 := (B1_10.alloc _).drew.kept k11 (Nat.ne_of_gt y2_BF)
  have B2_11 := (Arr_at _ _ [.int .i64 r10.1.1, .int .i64 r10.1.2.1, .int .i64 r10.1.2.2] _ (by simp)).drew.kept k11 (Nat.ne_of_gt y3_BF)
  have z11 := B2_11.lies
  clear hHeld
  refine hK.out _ _ B2_11 (fun hHeld => ?_)
  clear hK K K10 f10 B0_10 B1_10 k11
  refine call_at (i := 10) (by kernel_rfl) rfl (fun K hK => ?_)
  go_simp
  refine (rMul_any b r11.2 r10.1.2.1 r3.1 _ f11).mono ?_
  rintro e w12 ⟨rfl, f12, k12⟩
  generalize e12 : mulS r11.2 r10.1.2.1 r3.1 = r12 at f12 ⊢
  have E12 : Hid _ := e12
  clear e12
  have K12 : Kept b w w12 := Kept.trans K11 k12
  have B0_12 := B0_11.kept k12 (Nat.ne_of_gt y1_BF)
  have B1_12 := B1_11.kept k12 (Nat.ne_of_gt y2_BF)
  have B2_12 := B2_11.kept k12 (Nat.ne_of_gt y3_BF)
  have z12 := B2_12.lies
  clear hHeld
  refine hK.out _ _ B2_12 (fun hHeld => ?_)
  clear hK K K11 f11 B0_11 B1_11 B2_11 k12
  refine call_at (i := 11) (by kernel_rfl) rfl (fun K hK => ?_)
  go_simp
  refine (rSub_any b r12.2 r11.1 r12.1 _ f12).mono ?_
  rintro e w13 ⟨rfl, f13, k13⟩
  generalize e13 : subS r12.2 r11.1 r12.1 = r13 at f13 ⊢
  have E13 : Hid _ := e13
  clear e13
  have K13 : Kept b w w13 := Kept.trans K12 k13
  have B0_13 := B0_12.kept k13 (Nat.ne_of_gt y1_BF)
  have B1_13 := B1_12.kept k13 (Nat.ne_of_gt y2_BF)
  have B2_13 := B2_12.kept k13 (Nat.ne_of_gt y3_BF)
  have z13 := B2_13.lies
  clear hHeld
  refine hK.out _ _ B2_13 (fun hHeld => ?_)
  clear hK K K12 f12 B0_12 B1_12 B2_12 k13
  refine take_at (i := 12) (v := ?v30) rfl (by kernel_rfl) (by kernel_rfl) (by kernel_rfl) (fun _ _ _ h => h) (Or.inl ⟨by rfl, ?y30⟩) hHeld ?t30
  case y30 => (intro wx hSw; go_simp <;> with_reducible rfl)
  simp only [Act.put, List.setIfInBounds_toArray, List.set_cons_zero, List.set_cons_succ]
  refine wpAnyH_done (by kernel_rfl) ?_ _
  clear hHeld
  go_wp2_with fail
  refine wp_region_held_drew (S := fun w' => Arr w10.heap.size [.int .i64 r10.1.1, .int .i64 r10.1.2.1, .int .i64 r10.1.2.2] w') (by kernel_rfl) B2_13.drew (fun hHeld => ?_)
  refine take_at (i := 0) (v := ?v31) rfl (by kernel_rfl) (by kernel_rfl) (by kernel_rfl) (fun _ _ _ h => h) (Or.inl ⟨by rfl, ?y31⟩) hHeld ?t31
  case y31 => (intro wx hSw; go_simp <;> with_reducible rfl)
  simp only [Act.put, List.setIfInBounds_toArray, List.set_cons_zero, List.set_cons_succ]
  refine take_at (i := 1) (v := ?v32) rfl (by kernel_rfl) (by kernel_rfl) (by kernel_rfl) (fun _ _ _ h => h) (Or.inl ⟨by rfl, ?y32⟩) hHeld ?t32
  case y32 => (intro wx hSw; go_simp <;> with_reducible rfl)
  simp only [Act.put, List.setIfInBounds_toArray, List.set_cons_zero, List.set_cons_succ]
  refine take_at (i := 2) (v := ?v33) rfl (by kernel_rfl) (by kernel_rfl) (by kernel_rfl) (fun _ _ _ h => h) (Or.inl ⟨by rfl, ?y33⟩) hHeld ?t33
  case y33 => (intro wx hSw; go_simp <;> with_reducible rfl)
  simp only [Act.put, List.setIfInBounds_toArray, List.set_cons_zero, List.set_cons_succ]
  refine take_at (i := 3) (v := ?v34) rfl (by kernel_rfl) (by kernel_rfl) (by kernel_rfl) (fun _ _ _ h => h) (Or.inl ⟨by rfl, ?y34⟩) hHeld ?t34
  case y34 => (intro wx hSw; have hc1 : wx.cell? ⟨w10.heap.size, 1, none⟩ = some (.int .i64 r10.1.2.1) := hSw.c 1 (of_decide_eq_true rfl); go_simp <;> with_reducible rfl)
  simp only [Act.put, List.setIfInBounds_toArray, List.set_cons_zero, List.set_cons_succ]
  refine take_at (i := 4) (v := ?v35) rfl (by kernel_rfl) (by kernel_rfl) (by kernel_rfl) (fun _ _ _ h => h) (Or.inl ⟨by rfl, ?y35⟩) hHeld ?t35
  case y35 => (intro wx hSw; go_simp <;> with_reducible rfl)
  simp only [Act.put, List.setIfInBounds_toArray, List.set_cons_zero, List.set_cons_succ]
  refine take_at (i := 6) (v := ?v36) rfl (by kernel_rfl) (by kernel_rfl) (by kernel_rfl) (fun _ _ _ h => h) (Or.inl ⟨by rfl, ?y36⟩) hHeld ?t36
  case y36 => (intro wx hSw; go_simp <;> with_reducible rfl)
  simp only [Act.put, List.setIfInBounds_toArray, List.set_cons_zero, List.set_cons_succ]
  refine take_at (i := 7) (v := ?v37) rfl (by kernel_rfl) (by kernel_rfl) (by kernel_rfl) (fun _ _ _ h => h) (Or.inl ⟨by rfl, ?y37⟩) hHeld ?t37
  case y37 => (intro wx hSw; go_simp <;> with_reducible rfl)
  simp only [Act.put, List.setIfInBounds_toArray, List.set_cons_zero, List.set_cons_succ]
  refine take_at (i := 8) (v := ?v38) rfl (by kernel_rfl) (by kernel_rfl) (by kernel_rfl) (fun _ _ _ h => h) (Or.inl ⟨by rfl, ?y38⟩) hHeld ?t38
  case y38 => (intro wx hSw; have hc0 : wx.cell? ⟨w10.heap.size, 0, none⟩ = some (.int .i64 r10.1.1) := hSw.c 0 (of_decide_eq_true rfl); go_simp <;> with_reducible rfl)
  simp only [Act.put, List.setIfInBounds_toArray, List.set_cons_zero, List.set_cons_succ]
  refine take_at (i := 9) (v := ?v39) rfl (by kernel_rfl) (by kernel_rfl) (by kernel_rfl) (fun _ _ _ h => h) (Or.inl ⟨by rfl, ?y39⟩) hHeld ?t39
  case y39 => (intro wx hSw; go_simp <;> with_reducible rfl)
  simp only [Act.put, List.setIfInBounds_toArray, List.set_cons_zero, List.set_cons_succ]
  refine call_at (i := 5) (by kernel_rfl) rfl (fun K hK => ?_)
  go_simp
  refine (rMul_any b r13.2 r10.1.2.1 r2.1 _ f13.drew).mono ?_
  rintro e w14 ⟨rfl, f14, k14⟩
  generalize e14 : mulS r13.2 r10.1.2.1 r2.1 = r14 at f14 ⊢
  have E14 : Hid _ := e14
  clear e14
  have K14 : Kept b w w14 := Kept.trans K13.drew k14
  have B0_14 := B0_13.drew.kept k14 (Nat.ne_of_gt y1_BF)
  have B1_14 := B1_13.drew.kept k14 (Nat.ne_of_gt y2_BF)
  have B2_14 := B2_13.drew.kept k14 (Nat.ne_of_gt y3_BF)
  have z14 := B2_14.lies
  clear hHeld
  refine hK.out _ _ B2_14 (fun hHeld => ?_)
  clear hK K K13 f13 B0_13 B1_13 B2_13 k14
  refine call_at (i := 10) (by kernel_rfl) rfl (fun K hK => ?_)
  go_simp
  refine (rMul_any b r14.2 r10.1.1 r3.1 _ f14).mono ?_
  rintro e w15 ⟨rfl, f15, k15⟩
  generalize e15 : mulS r14.2 r10.1.1 r3.1 = r15 at f15 ⊢
  have E15 : Hid _ := e15
  clear e15
  have K15 : Kept b w w15 := Kept.trans K14 k15
  have B0_15 := B0_14.kept k15 (Nat.ne_of_gt y1_BF)
  have B1_15 := B1_14.kept k15 (Nat.ne_of_gt y2_BF)
  have B2_15 := B2_14.kept k15 (Nat.ne_of_gt y3_BF)
  have z15 := B2_15.lies
  clear hHeld
  refine hK.out _ _ B2_15 (fun hHeld => ?_)
  clear hK K K14 f14 B0_14 B1_14 B2_14 k15
  refine call_at (i := 11) (by kernel_rfl) rfl (fun K hK => ?_)
  go_simp
  refine (rAdd_any b r15.2 r14.1 r15.1 _ f15).mono ?_
  rintro e w16 ⟨rfl, f16, k16⟩
  generalize e16 : addS r15.2 r14.1 r15.1 = r16 at f16 ⊢
  have E16 : Hid _ := e16
  clear e16
  have K16 : Kept b w w16 := Kept.trans K15 k16
  have B0_16 := B0_15.kept k16 (Nat.ne_of_gt y1_BF)
  have B1_16 := B1_15.kept k16 (Nat.ne_of_gt y2_BF)
  have B2_16 := B2_15.kept k16 (Nat.ne_of_gt y3_BF)
  have z16 := B2_16.lies
  clear hHeld
  refine hK.out _ _ B2_16 (fun hHeld => ?_)
  clear hK K K15 f15 B0_15 B1_15 B2_15 k16
  refine take_at (i := 12) (v := ?v40) rfl (by kernel_rfl) (by kernel_rfl) (by kernel_rfl) (fun _ _ _ h => h) (Or.inl ⟨by rfl, ?y40⟩) hHeld ?t40
  case y40 => (intro wx hSw; go_simp <;> with_reducible rfl)
  simp only [Act.put, List.setIfInBounds_toArray, List.set_cons_zero, List.set_cons_succ]
  refine wpAnyH_done (by kernel_rfl) ?_ _
  clear hHeld
  rcases Bool.eq_false_or_eq_true r16.2 with hc1 | hc1
  · have Hhc1 : Hid (r16.2 = true) := hc1
    have c9_B1_0 : w16.cell? ⟨w.heap.size + 1, 0, none⟩ = some (.int .i64 0) := B1_16.c 0 (of_decide_eq_true rfl)
    have c9_B1_1 : w16.cell? ⟨w.heap.size + 1, 1, none⟩ = some (.int .i64 0) := B1_16.c 1 (of_decide_eq_true rfl)
    have c9_B1_2 : w16.cell? ⟨w.heap.size + 1, 2, none⟩ = some (.int .i64 0) := B1_16.c 2 (of_decide_eq_true rfl)
    have c9_BF := f16.cell
    have g9_B1_0 := B1_16.f 0 (of_decide_eq_true rfl)
    have g9_B1_1 := B1_16.f 1 (of_decide_eq_true rfl)
    have g9_B1_2 := B1_16.f 2 (of_decide_eq_true rfl)
    go_wp2_with (with_reducible refine post_stop ?_)
    refine Stop.mk ?_
    clear c9_B1_0 c9_B1_1 c9_B1_2 c9_BF g9_B1_0 g9_B1_1 g9_B1_2
    refine bodyPost_ret (v := .agg #[.int .i64 0, .int .i64 0, .int .i64 0]) (results_arr Tryd.results14 (((B1_16.put 0 (of_decide_eq_true rfl) (.int .i64 0) [.int .i64 0, .int .i64 0, .int .i64 0] rfl).put 1 (of_decide_eq_true rfl) (.int .i64 0) [.int .i64 0, .int .i64 0, .int .i64 0] rfl).put 2 (of_decide_eq_true rfl) (.int .i64 0) [.int .i64 0, .int .i64 0, .int .i64 0] rfl) rfl (by kernel_rfl) (by kernel_rfl)) rfl ?_
    have hs : skyR bad p t = ((0, 0, 0), r16.2) := by unfold skyR; simp only [E1.out, E2.out, E3.out, E4.out, E5.out, E6.out, E7.out, E8.out, E9.out, E10.out, E11.out, E12.out, E13.out, E14.out, E15.out, E16.out]; rw [if_pos Hhc1.out]
    rw [hs]
    exact ⟨rfl, (((f16.new (w.heap.size + 1) 0 (Nat.ne_of_lt y2_BF) (.int .i64 0)).new (w.heap.size + 1) 1 (Nat.ne_of_lt y2_BF) (.int .i64 0)).new (w.heap.size + 1) 2 (Nat.ne_of_lt y2_BF) (.int .i64 0)), (((K16.new _ _ (by omega) _).new _ _ (by omega) _).new _ _ (by omega) _)⟩
  · have Hhc1 : Hid (r16.2 = false) := hc1
    have c9_B1_0 : w16.cell? ⟨w.heap.size + 1, 0, none⟩ = some (.int .i64 0) := B1_16.c 0 (of_decide_eq_true rfl)
    have c9_B1_1 : w16.cell? ⟨w.heap.size + 1, 1, none⟩ = some (.int .i64 0) := B1_16.c 1 (of_decide_eq_true rfl)
    have c9_B1_2 : w16.cell? ⟨w.heap.size + 1, 2, none⟩ = some (.int .i64 0) := B1_16.c 2 (of_decide_eq_true rfl)
    have c9_B2_2 : w16.cell? ⟨w10.heap.size, 2, none⟩ = some (.int .i64 r10.1.2.2) := B2_16.c 2 (of_decide_eq_true rfl)
    have c9_BF := f16.cell
    have g9_B1_0 := B1_16.f 0 (of_decide_eq_true rfl)
    have g9_B1_1 := B1_16.f 1 (of_decide_eq_true rfl)
    have g9_B1_2 := B1_16.f 2 (of_decide_eq_true rfl)
    go_wp2_with (with_reducible refine post_stop ?_)
    refine Stop.mk ?_
    clear c9_B1_0 c9_B1_1 c9_B1_2 c9_B2_2 c9_BF g9_B1_0 g9_B1_1 g9_B1_2
    refine bodyPost_ret (v := .agg #[.int .i64 r13.1, .int .i64 r16.1, .int .i64 r10.1.2.2]) (results_arr Tryd.results14 (((B1_16.put 0 (of_decide_eq_true rfl) (.int .i64 r13.1) [.int .i64 r13.1, .int .i64 0, .int .i64 0] rfl).put 1 (of_decide_eq_true rfl) (.int .i64 r16.1) [.int .i64 r13.1, .int .i64 r16.1, .int .i64 0] rfl).put 2 (of_decide_eq_true rfl) (.int .i64 r10.1.2.2) [.int .i64 r13.1, .int .i64 r16.1, .int .i64 r10.1.2.2] rfl) rfl (by kernel_rfl) (by kernel_rfl)) rfl ?_
    have hs : skyR bad p t = ((r13.1, r16.1, r10.1.2.2), r16.2) := by unfold skyR; simp only [E1.out, E2.out, E3.out, E4.out, E5.out, E6.out, E7.out, E8.out, E9.out, E10.out, E11.out, E12.out, E13.out, E14.out, E15.out, E16.out]; rw [if_neg (by rw [Hhc1.out]; decide)]
    rw [hs]
    exact ⟨rfl, (((f16.new (w.heap.size + 1) 0 (Nat.ne_of_lt y2_BF) (.int .i64 r13.1)).new (w.heap.size + 1) 1 (Nat.ne_of_lt y2_BF) (.int .i64 r16.1)).new (w.heap.size + 1) 2 (Nat.ne_of_lt y2_BF) (.int .i64 r10.1.2.2)), (((K16.new _ _ (by omega) _).new _ _ (by omega) _).new _ _ (by omega) _)⟩
end Go.Proofs.YtmhcfkcpoecokaaDoor
namespace Go.Proofs.YtmhcfkcpoecokaaDoor
open Go.RowKit

theorem rsky_any (b : Nat) (bad : Bool) (p : V3) (t : Int) (w : World) (hw : Fl b bad w) :
    Calls Tryd.prog 14 #[.pointer (some ⟨b, 0, none⟩), .agg #[.int .i64 p.1, .int .i64 p.2.1, .int .i64 p.2.2], .int .i64 t] w fun e w' => e = .returned (.agg #[.int .i64 (skyS bad p t).1.1, .int .i64 (skyS bad p t).1.2.1, .int .i64 (skyS bad p t).1.2.2]) ∧ Fl b (skyS bad p t).2 w' ∧ Kept b w w' := by
  have h := rskyR_any b bad p t w hw
  rw [skyR_eq] at h
  exact h
end Go.Proofs.YtmhcfkcpoecokaaDoor
