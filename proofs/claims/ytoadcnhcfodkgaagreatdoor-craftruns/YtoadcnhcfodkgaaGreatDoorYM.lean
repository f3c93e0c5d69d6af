/-
  mode, by the symbolic run, for the seat YtoadcnhcfodkgaaGreatDoor.
-/
import Derived.Test.YtoadcnhcfodkgaaGreatDoorSxM
import Derived.Handy
import Derived.BigRegion
import Derived.Deep.RegionHeld3
import Derived.Test.YtoadcnhcfodkgaaGreatDoorStop
import Derived.Test.YtoadcnhcfodkgaaGreatDoorZAl
namespace Go.Proofs.YtoadcnhcfodkgaaGreatDoor
open Go.RowKit

theorem mmix : Tryz.prog.follows .mixedOrders = true := by kernel_rfl
theorem counted_fx : PureOk Tryz.prog 249 (then' cI (lone' cB)) (fun x => cntW x.1 x.2) cI := pure_sx (tbl := []) (dirty := fun _ => []) (n := 8) mmix Tryz.func249 rfl (fun x Post => by
    refine Eq.trans (b := ?m) ?x (Eq.symm ?y)
    case y => unfold cntW; simp only [← vif_le (K := PJ cI Post), ← vif_bn (K := PJ cI Post)]; exact rfl
    case x => kernel_rfl)
def ctcounted : Ct Tryz.prog := pureCt Tryz.prog 249 (then' cI (lone' cB)) (fun x => cntW x.1 x.2) cI (go_of Tryz.func249 (by kernel_rfl) (by kernel_rfl)) counted_fx
theorem goTo_fx : PureOk Tryz.prog 160 (then' cI (lone' cPl)) (fun x => goS x.1 x.2) cPl := pure_sx (tbl := []) (dirty := fun _ => []) (n := 8) mmix Tryz.func160 rfl (fun x Post => by kernel_rfl)
def ctgoTo : Ct Tryz.prog := pureCt Tryz.prog 160 (then' cI (lone' cPl)) (fun x => goS x.1 x.2) cPl (go_of Tryz.func160 (by kernel_rfl) (by kernel_rfl)) goTo_fx
theorem safe_fx : PureOk Tryz.prog 161 (then' cPl (lone' cSn)) (fun x => safeS x.1 x.2) cPl := pure_sx (tbl := [ctgoTo]) (dirty := fun _ => []) (n := 8) mmix Tryz.func161 rfl (fun x Post => by
    refine Eq.trans (b := ?m) ?x (Eq.symm ?y)
    case y => unfold safeS; simp only [← vif_ne (K := PJ cPl Post)]; exact rfl
    case x => kernel_rfl)
def ctsafe : Ct Tryz.prog := pureCt Tryz.prog 161 (then' cPl (lone' cSn)) (fun x => safeS x.1 x.2) cPl (go_of Tryz.func161 (by kernel_rfl) (by kernel_rfl)) safe_fx
theorem det_fx : PureOk Tryz.prog 162 (then' cPl (lone' cSn)) (fun x => detW x.1 x.2) cPl := pure_sx (tbl := [ctcounted, ctgoTo]) (dirty := fun _ => []) (n := 8) mmix Tryz.func162 rfl (fun x Post => by
    obtain ⟨p, a, b, c, d, e, f, g, o⟩ := x
    refine Eq.trans (b := ?m) ?x (Eq.symm ?y)
    case y => unfold detW; simp only [← vif_le (K := PJ cPl Post)]; exact rfl
    case x => cases b <;> cases c <;> kernel_rfl)
def ctdet : Ct Tryz.prog := pureCt Tryz.prog 162 (then' cPl (lone' cSn)) (fun x => detW x.1 x.2) cPl (go_of Tryz.func162 (by kernel_rfl) (by kernel_rfl)) det_fx
theorem coa_fx : PureOk Tryz.prog 164 (then' cPl (lone' cSn)) (fun x => coaW x.1 x.2) cPl := pure_sx (tbl := [ctcounted, ctgoTo]) (dirty := fun _ => []) (n := 8) mmix Tryz.func164 rfl (fun x Post => by
    obtain ⟨p, a, b, c, d, e, f, g, o⟩ := x
    cases b
    · refine Eq.trans (b := ?m1) ?x1 (Eq.symm ?y1)
      case y1 => unfold coaW; simp only [Bool.false_and, cond_false, ← vif_le (K := PJ cPl Post)]; exact rfl
      case x1 => kernel_rfl
    cases c
    · kernel_rfl
    cases d
    · refine Eq.trans (b := ?m2) ?x2 (Eq.symm ?y2)
      case y2 => unfold coaW; simp only [Bool.true_and, Bool.not_true, Bool.false_and, cond_false, ← vif_le (K := PJ cPl Post)]; exact rfl
      case x2 => kernel_rfl
    cases e
    · refine Eq.trans (b := ?m3) ?x3 (Eq.symm ?y3)
      case y3 => unfold coaW; simp only [Bool.true_and, Bool.not_true, cond_false, ← vif_le (K := PJ cPl Post)]; exact rfl
      case x3 => kernel_rfl
    · refine Eq.trans (b := ?m4) ?x4 (Eq.symm ?y4)
      case y4 => unfold coaW; simp only [Bool.true_and, Bool.not_true, cond_false, ← vif_le (K := PJ cPl Post)]; exact rfl
      case x4 => kernel_rfl)
def ctcoa : Ct Tryz.prog := pureCt Tryz.prog 164 (then' cPl (lone' cSn)) (fun x => coaW x.1 x.2) cPl (go_of Tryz.func164 (by kernel_rfl) (by kernel_rfl)) coa_fx
set_option maxHeartbeats 1000000 in
theorem goTo_any (k m c g i l f : Int) (w : World) : Calls Tryz.prog 160 #[.int .i64 k, .agg #[.int .i64 m, .int .i64 c, .int .i64 g, .int .i64 i, .int .i64 l, .int .i64 f]] w fun e w' => e = .returned (.agg #[.int .i64 k, .int .i64 0, .int .i64 0, .int .i64 0, .int .i64 0, .int .i64 f]) ∧ Below w.heap.size w w' := by
  go_enter Tryz.func160, Tryz.ntmps160
  go_wp2_with (with_reducible refine post_stop ?_)
  exact ⟨bodyPost_ret (v := .agg #[.int .i64 k, .int .i64 0, .int .i64 0, .int .i64 0, .int .i64 0, .int .i64 f]) (by simp [results, Tryz.results160, go_sem]) rfl ⟨rfl, bel_al (bel_al (Below.refl _ _) _) _⟩⟩
set_option maxRecDepth 100000 in
set_option maxHeartbeats 4000000 in
theorem fail_any (x m c g i l f : Int) (w : World) (hx : I64 x) (hm : I64 m) (hl : ldF true true true true true m x = 1) : Calls Tryz.prog 163 #[.int .i64 x, .agg #[.int .i64 m, .int .i64 c, .int .i64 g, .int .i64 i, .int .i64 l, .int .i64 f]] w fun e w' => e = .returned (.agg #[.int .i64 1, .int .i64 0, .int .i64 0, .int .i64 0, .int .i64 0, .int .i64 (bits .or .i64 f x)]) ∧ Below w.heap.size w w' := by
  go_enter Tryz.func163, Tryz.ntmps163
  go_wp2_with fail
  have A0 : Arr w.heap.size [.int .i64 m, .int .i64 c, .int .i64 g, .int .i64 i, .int .i64 l, .int .i64 (bits .or .i64 f x)] ((w.alloc (.cells #[.int .i64 m, .int .i64 c, .int .i64 g, .int .i64 i, .int .i64 l, .int .i64 (bits .or .i64 f x)] 26)).alloc (.cells #[.int .i64 0, .int .i64 0, .int .i64 0, .int .i64 0, .int .i64 0, .int .i64 0] 26)).drew := ((Arr_at w _ [.int .i64 m, .int .i64 c, .int .i64 g, .int .i64 i, .int .i64 l, .int .i64 (bits .or .i64 f x)] 26 rfl).alloc _).drew
  have A1 : Arr (w.heap.size + 1) [.int .i64 0, .int .i64 0, .int .i64 0, .int .i64 0, .int .i64 0, .int .i64 0] ((w.alloc (.cells #[.int .i64 m, .int .i64 c, .int .i64 g, .int .i64 i, .int .i64 l, .int .i64 (bits .or .i64 f x)] 26)).alloc (.cells #[.int .i64 0, .int .i64 0, .int .i64 0, .int .i64 0, .int .i64 0, .int .i64 0] 26)).drew := (Arr_at _ _ [.int .i64 0, .int .i64 0, .int .i64 0, .int .i64 0, .int .i64 0, .int .i64 0] 26 (by simp)).drew
  have K0 : Below w.heap.size w ((w.alloc (.cells #[.int .i64 m, .int .i64 c, .int .i64 g, .int .i64 i, .int .i64 l, .int .i64 (bits .or .i64 f x)] 26)).alloc (.cells #[.int .i64 0, .int .i64 0, .int .i64 0, .int .i64 0, .int .i64 0, .int .i64 0] 26)).drew := Below.drew (bel_al (bel_al (Below.refl _ _) _) _)
  refine wp_region_held_drew (S := fun w' => Arr w.heap.size [.int .i64 m, .int .i64 c, .int .i64 g, .int .i64 i, .int .i64 l, .int .i64 (bits .or .i64 f x)] w') (by kernel_rfl) A0 (fun hHeld => ?_)
  generalize ((w.alloc (.cells #[.int .i64 m, .int .i64 c, .int .i64 g, .int .i64 i, .int .i64 l, .int .i64 (bits .or .i64 f x)] 26)).alloc (.cells #[.int .i64 0, .int .i64 0, .int .i64 0, .int .i64 0, .int .i64 0, .int .i64 0] 26)).drew = w0 at *
  refine take_at (i := 1) (v := ?v1) rfl (by kernel_rfl) (by kernel_rfl) (by kernel_rfl) (fun _ _ _ h => h) (Or.inl ⟨by rfl, ?y1⟩) hHeld ?t1
  case y1 => (intro wx hSw; go_simp <;> with_reducible rfl)
  simp only [Act.put, List.setIfInBounds_toArray, List.set_cons_zero, List.set_cons_succ]
  refine take_at (i := 2) (v := ?v2) rfl (by kernel_rfl) (by kernel_rfl) (by kernel_rfl) (fun _ _ _ h => h) (Or.inl ⟨by rfl, ?y2⟩) hHeld ?t2
  case y2 => (intro wx hSw; have cw_0 : wx.cell? ⟨w.heap.size, 0, none⟩ = some (.int .i64 m) := hSw.c 0 (of_decide_eq_true rfl); have cw_1 : wx.cell? ⟨w.heap.size, 1, none⟩ = some (.int .i64 c) := hSw.c 1 (of_decide_eq_true rfl); have cw_2 : wx.cell? ⟨w.heap.size, 2, none⟩ = some (.int .i64 g) := hSw.c 2 (of_decide_eq_true rfl); have cw_3 : wx.cell? ⟨w.heap.size, 3, none⟩ = some (.int .i64 i) := hSw.c 3 (of_decide_eq_true rfl); have cw_4 : wx.cell? ⟨w.heap.size, 4, none⟩ = some (.int .i64 l) := hSw.c 4 (of_decide_eq_true rfl); have cw_5 : wx.cell? ⟨w.heap.size, 5, none⟩ = some (.int .i64 (bits .or .i64 f x)) := hSw.c 5 (of_decide_eq_true rfl); go_simp <;> with_reducible rfl)
  simp only [Act.put, List.setIfInBounds_toArray, List.set_cons_zero, List.set_cons_succ]
  refine take_at (i := 3) (v := ?v3) rfl (by kernel_rfl) (by kernel_rfl) (by kernel_rfl) (fun _ _ _ h => h) (Or.inl ⟨by rfl, ?y3⟩) hHeld ?t3
  case y3 => (intro wx hSw; go_simp <;> with_reducible rfl)
  simp only [Act.put, List.setIfInBounds_toArray, List.set_cons_zero, List.set_cons_succ]
  refine take_at (i := 4) (v := ?v4) rfl (by kernel_rfl) (by kernel_rfl) (by kernel_rfl) (fun _ _ _ h => h) (Or.inl ⟨by rfl, ?y4⟩) hHeld ?t4
  case y4 => (intro wx hSw; go_simp <;> with_reducible rfl)
  simp only [Act.put, List.setIfInBounds_toArray, List.set_cons_zero, List.set_cons_succ]
  refine take_at (i := 6) (v := ?v6) rfl (by kernel_rfl) (by kernel_rfl) (by kernel_rfl) (fun _ _ _ h => h) (Or.inl ⟨by rfl, ?y6⟩) hHeld ?t6
  case y6 => (intro wx hSw; have cw_0 : wx.cell? ⟨w.heap.size, 0, none⟩ = some (.int .i64 m) := hSw.c 0 (of_decide_eq_true rfl); have cw_1 : wx.cell? ⟨w.heap.size, 1, none⟩ = some (.int .i64 c) := hSw.c 1 (of_decide_eq_true rfl); have cw_2 : wx.cell? ⟨w.heap.size, 2, none⟩ = some (.int .i64 g) := hSw.c 2 (of_decide_eq_true rfl); have cw_3 : wx.cell? ⟨w.heap.size, 3, none⟩ = some (.int .i64 i) := hSw.c 3 (of_decide_eq_true rfl); have cw_4 : wx.cell? ⟨w.heap.size, 4, none⟩ = some (.int .i64 l) := hSw.c 4 (of_decide_eq_true rfl); have cw_5 : wx.cell? ⟨w.heap.size, 5, none⟩ = some (.int .i64 (bits .or .i64 f x)) := hSw.c 5 (of_decide_eq_true rfl); go_simp <;> with_reducible rfl)
  simp only [Act.put, List.setIfInBounds_toArray, List.set_cons_zero, List.set_cons_succ]
  refine call_at (i := 0) (by kernel_rfl) rfl (fun K hK => ?_)
  go_simp
  refine (leads_any _).mono ?_
  rintro e w1 ⟨k, rfl, hk, M, b1⟩
  have A0_1 := A0.below b1
  have A1_1 := A1.below b1
  have K1 := bel_then K0 b1
  clear hHeld
  refine hK.out _ _ A0_1 (fun hHeld => ?_)
  clear hK K A0 A1 K0
  have Lk := M.look hm hx
  rw [hl] at Lk
  refine call_at (i := 5) (by kernel_rfl) rfl (fun K hK => ?_)
  go_simp
  refine hK.out _ _ A0_1 (fun hHeld => ?_)
  clear hK K Lk
  refine call_at (i := 7) (by kernel_rfl) rfl (fun K hK => ?_)
  go_simp
  refine (goTo_any 1 m c g i l (bits .or .i64 f x) _).mono ?_
  rintro e w2 ⟨rfl, b2⟩
  have A0_2 := A0_1.below b2
  have A1_2 := A1_1.below b2
  have K2 := bel_then K1 b2
  clear hHeld
  refine hK.out _ _ A0_2 (fun hHeld => ?_)
  clear hK K A0_1 A1_1 K1
  have cz_0 : w2.cell? ⟨(w.heap.size + 1), 0, none⟩ = some (.int .i64 0) := A1_2.c 0 (of_decide_eq_true rfl)
  have gz_0 := A1_2.f 0 (of_decide_eq_true rfl)
  have cz_1 : w2.cell? ⟨(w.heap.size + 1), 1, none⟩ = some (.int .i64 0) := A1_2.c 1 (of_decide_eq_true rfl)
  have gz_1 := A1_2.f 1 (of_decide_eq_true rfl)
  have cz_2 : w2.cell? ⟨(w.heap.size + 1), 2, none⟩ = some (.int .i64 0) := A1_2.c 2 (of_decide_eq_true rfl)
  have gz_2 := A1_2.f 2 (of_decide_eq_true rfl)
  have cz_3 : w2.cell? ⟨(w.heap.size + 1), 3, none⟩ = some (.int .i64 0) := A1_2.c 3 (of_decide_eq_true rfl)
  have gz_3 := A1_2.f 3 (of_decide_eq_true rfl)
  have cz_4 : w2.cell? ⟨(w.heap.size + 1), 4, none⟩ = some (.int .i64 0) := A1_2.c 4 (of_decide_eq_true rfl)
  have gz_4 := A1_2.f 4 (of_decide_eq_true rfl)
  have cz_5 : w2.cell? ⟨(w.heap.size + 1), 5, none⟩ = some (.int .i64 0) := A1_2.c 5 (of_decide_eq_true rfl)
  have gz_5 := A1_2.f 5 (of_decide_eq_true rfl)
  have l2 := A1_2.lies
  refine call_at (i := 8) (by kernel_rfl) rfl (fun K hK => ?_)
  go_simp
  refine hK.out _ _ ((((((A0_2.new (w.heap.size + 1) 0 (by omega) (.int .i64 1)).new (w.heap.size + 1) 1 (by omega) (.int .i64 0)).new (w.heap.size + 1) 2 (by omega) (.int .i64 0)).new (w.heap.size + 1) 3 (by omega) (.int .i64 0)).new (w.heap.size + 1) 4 (by omega) (.int .i64 0)).new (w.heap.size + 1) 5 (by omega) (.int .i64 (bits .or .i64 f x))) (fun hHeld => ?_)
  refine wpAnyH_done (by kernel_rfl) ?_ _
  have A1_3 := ((((((A1_2.put 0 (of_decide_eq_true rfl) (.int .i64 1) [.int .i64 1, .int .i64 0, .int .i64 0, .int .i64 0, .int .i64 0, .int .i64 0] rfl).put 1 (of_decide_eq_true rfl) (.int .i64 0) [.int .i64 1, .int .i64 0, .int .i64 0, .int .i64 0, .int .i64 0, .int .i64 0] rfl).put 2 (of_decide_eq_true rfl) (.int .i64 0) [.int .i64 1, .int .i64 0, .int .i64 0, .int .i64 0, .int .i64 0, .int .i64 0] rfl).put 3 (of_decide_eq_true rfl) (.int .i64 0) [.int .i64 1, .int .i64 0, .int .i64 0, .int .i64 0, .int .i64 0, .int .i64 0] rfl).put 4 (of_decide_eq_true rfl) (.int .i64 0) [.int .i64 1, .int .i64 0, .int .i64 0, .int .i64 0, .int .i64 0, .int .i64 0] rfl).put 5 (of_decide_eq_true rfl) (.int .i64 (bits .or .i64 f x)) [.int .i64 1, .int .i64 0, .int .i64 0, .int .i64 0, .int .i64 0, .int .i64 (bits .or .i64 f x)] rfl)
  have K3 := (bel_new (bel_new (bel_new (bel_new (bel_new (bel_new K2 (w.heap.size + 1) 0 (by omega) (.int .i64 1)) (w.heap.size + 1) 1 (by omega) (.int .i64 0)) (w.heap.size + 1) 2 (by omega) (.int .i64 0)) (w.heap.size + 1) 3 (by omega) (.int .i64 0)) (w.heap.size + 1) 4 (by omega) (.int .i64 0)) (w.heap.size + 1) 5 (by omega) (.int .i64 (bits .or .i64 f x)))
  clear hHeld hK K
  go_wp2_with (with_reducible refine post_stop ?_)
  exact ⟨bodyPost_ret (v := .agg #[.int .i64 1, .int .i64 0, .int .i64 0, .int .i64 0, .int .i64 0, .int .i64 (bits .or .i64 f x)]) (results_arr Tryz.results163 A1_3 rfl (by kernel_rfl) (by kernel_rfl)) rfl ⟨rfl, K3⟩⟩
theorem fp_in {m x : Int} (h : decide (ldF true true true true true m x = 1) = true) : I64 x ∧ I64 m ∧ ldF true true true true true m x = 1 := by
  have h := of_decide_eq_true h
  refine ⟨?_, ?_, h⟩
  all_goals
    unfold ldF at h
    split at h
    · rename_i c
      exact ⟨by omega, by omega⟩
    · omega
theorem fail_fx : PureOk Tryz.prog 163 lFp (fun q => failS q.1.1 q.1.2) cPl := fun q w _ => fail_any q.1.1 q.1.2.mode q.1.2.calm q.1.2.good q.1.2.miss q.1.2.lost q.1.2.faults w (fp_in q.2).1 (fp_in q.2).2.1 (fp_in q.2).2.2
def ctfail : Ct Tryz.prog := pureCt Tryz.prog 163 lFp (fun q => failS q.1.1 q.1.2) cPl (go_of Tryz.func163 (by kernel_rfl) (by kernel_rfl)) fail_fx
theorem fin_fx : PureOk Tryz.prog 165 (then' cP2 (lone' cSn)) (fun x => finW x.1.1 x.2) cPl := pure_sx (tbl := [ctcounted, ctfail]) (dirty := fun _ => []) (n := 8) mmix Tryz.func165 rfl (fun x Post => by
    obtain ⟨⟨⟨M, c, g, i, l, f⟩, hM⟩, a, gyro, b, pair, lit, bad, pass, o⟩ := x
    have hM := of_decide_eq_true hM
    dsimp only at hM
    subst hM
    cases bad
    · cases gyro
      · cases pair
        · refine Eq.trans (b := ?m21) ?x21 (Eq.symm ?y21)
          case y21 => unfold finW failS; simp only [cond_false, Bool.not_false, Bool.false_and, ← vif_le (K := PJ cPl Post)]; exact rfl
          case x21 => kernel_rfl
        cases lit
        · refine Eq.trans (b := ?m22) ?x22 (Eq.symm ?y22)
          case y22 => unfold finW failS; simp only [cond_false, Bool.not_false, Bool.and_false, ← vif_le (K := PJ cPl Post)]; exact rfl
          case x22 => kernel_rfl
        · refine Eq.trans (b := ?m23) ?x23 (Eq.symm ?y23)
          case y23 => unfold finW failS; simp only [cond_false, cond_true, Bool.not_false, Bool.and_true, ← vif_le (K := PJ cPl Post)]; exact rfl
          case x23 => kernel_rfl
      · cases pair
        · refine Eq.trans (b := ?m24) ?x24 (Eq.symm ?y24)
          case y24 => unfold finW failS; simp only [cond_false, Bool.not_true, Bool.false_and, cntW_f, if_3]; exact rfl
          case x24 => kernel_rfl
        cases lit
        · refine Eq.trans (b := ?m25) ?x25 (Eq.symm ?y25)
          case y25 => unfold finW failS; simp only [cond_false, Bool.not_true, Bool.and_false, cntW_f, if_3]; exact rfl
          case x25 => kernel_rfl
        · refine Eq.trans (b := ?m26) ?x26 (Eq.symm ?y26)
          case y26 => unfold finW failS; simp only [cond_false, cond_true, Bool.not_true, Bool.and_true, cntW_f, if_3, ← vif_le (K := PJ cPl Post)]; exact rfl
          case x26 => kernel_rfl
    · show _ = _
      kernel_rfl)
def ctfin : Ct Tryz.prog := pureCt Tryz.prog 165 (then' cP2 (lone' cSn)) (fun x => finW x.1.1 x.2) cPl (go_of Tryz.func165 (by kernel_rfl) (by kernel_rfl)) fin_fx
theorem next_fx : PureOk Tryz.prog 53 (then' cPl (lone' cSn)) (fun x => nextW x.1 x.2) cPl := pure_sx (tbl := [ctgoTo, ctsafe, ctdet, ctfail, ctcoa, ctfin]) (dirty := fun _ => []) (n := 8) mmix Tryz.func53 rfl (fun x Post => by
    obtain ⟨⟨M, c, g, i, l, f⟩, gap, gyro, slow, pair, lit, bad, pass, o⟩ := x
    refine Eq.trans (b := vif (decide (o = 1)) (PJ cPl Post (goS 3 ⟨M, c, g, i, l, f⟩)) (PJ cPl Post (nextV ⟨M, c, g, i, l, f⟩ ⟨gap, gyro, slow, pair, lit, bad, pass, o⟩))) ?x vif_eq
    rcases M with n | n
    · rcases n with _ | _ | _ | _ | n
      · show _ = _; kernel_rfl
      · cases gap <;> (show _ = _; kernel_rfl)
      · cases gap <;> (show _ = _; kernel_rfl)
      · show _ = _; kernel_rfl
      · show _ = _; kernel_rfl
    · show _ = _; kernel_rfl)
def ctnextM : Ct Tryz.prog := pureCt Tryz.prog 53 (then' cPl (lone' cSn)) (fun x => nextW x.1 x.2) cPl (go_of Tryz.func53 (by kernel_rfl) (by kernel_rfl)) next_fx
end Go.Proofs.YtoadcnhcfodkgaaGreatDoor
