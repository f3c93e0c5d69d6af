/-
  The walks of package mode, for the seat Ytocnaflhedccpaa. (Made by mkmode.py.)
-/
import Derived.Test.YtocnaflhedccpaaMdSpec
import Derived.BigRegion
namespace Go.Proofs.Ytocnaflhedccpaa
open Go.RowKit

set_option maxHeartbeats 1000000 in
theorem counted_any (n : Int) (it : Bool) (w : World) (hn : I64 n) : Calls Try.prog 21 #[.int .i64 n, .bool it] w fun e w' => e = .returned (.int .i64 (cntS n it)) ∧ Below w.heap.size w w' := by
  obtain ⟨h0, h1⟩ := hn
  cases it
  · have HS : Hid (cntS n false = 0) := rfl
    go_enter Try.func21, Try.ntmps21
    go_wp2
    go_ret
    exact ⟨by rw [HS.out]; rfl, Below.refl _ _⟩
  · by_cases c : 100 ≤ n
    · have HS : Hid (cntS n true = 100) := if_pos c
      go_enter Try.func21, Try.ntmps21
      go_wp2
      go_ret
      exact ⟨by rw [HS.out]; rfl, Below.refl _ _⟩
    · have HS : Hid (cntS n true = n + 1) := if_neg c
      go_enter Try.func21, Try.ntmps21
      go_wp2
      go_ret
      exact ⟨by rw [HS.out]; rfl, Below.refl _ _⟩
set_option maxHeartbeats 1000000 in
theorem goTo_any (k m c g i l f : Int) (w : World) : Calls Try.prog 12 #[.int .i64 k, .agg #[.int .i64 m, .int .i64 c, .int .i64 g, .int .i64 i, .int .i64 l, .int .i64 f]] w fun e w' => e = .returned (.agg #[.int .i64 k, .int .i64 0, .int .i64 0, .int .i64 0, .int .i64 0, .int .i64 f]) ∧ Below w.heap.size w w' := by
  go_enter Try.func12, Try.ntmps12
  go_wp2_with (with_reducible refine post_stop ?_)
  exact ⟨bodyPost_ret (v := .agg #[.int .i64 k, .int .i64 0, .int .i64 0, .int .i64 0, .int .i64 0, .int .i64 f]) (by simp [results, Try.results12, go_sem]) rfl ⟨rfl, bel_al (bel_al (Below.refl _ _) _) _⟩⟩
set_option maxRecDepth 100000 in
set_option maxHeartbeats 4000000 in
theorem fail_any (x m c g i l f : Int) (w : World) (hx : I64 x) (hm : I64 m) (hl : ldF true true true true true m x = 1) : Calls Try.prog 15 #[.int .i64 x, .agg #[.int .i64 m, .int .i64 c, .int .i64 g, .int .i64 i, .int .i64 l, .int .i64 f]] w fun e w' => e = .returned (.agg #[.int .i64 1, .int .i64 0, .int .i64 0, .int .i64 0, .int .i64 0, .int .i64 (bits .or .i64 f x)]) ∧ Below w.heap.size w w' := by
  go_enter Try.func15, Try.ntmps15
  go_wp2_with fail
  have A0 : Arr w.heap.size [.int .i64 m, .int .i64 c, .int .i64 g, .int .i64 i, .int .i64 l, .int .i64 (bits .or .i64 f x)] ((w.alloc (.cells #[.int .i64 m, .int .i64 c, .int .i64 g, .int .i64 i, .int .i64 l, .int .i64 (bits .or .i64 f x)] 23)).alloc (.cells #[.int .i64 0, .int .i64 0, .int .i64 0, .int .i64 0, .int .i64 0, .int .i64 0] 23)).drew := ((Arr_at w _ [.int .i64 m, .int .i64 c, .int .i64 g, .int .i64 i, .int .i64 l, .int .i64 (bits .or .i64 f x)] 23 rfl).alloc _).drew
  have A1 : Arr (w.heap.size + 1) [.int .i64 0, .int .i64 0, .int .i64 0, .int .i64 0, .int .i64 0, .int .i64 0] ((w.alloc (.cells #[.int .i64 m, .int .i64 c, .int .i64 g, .int .i64 i, .int .i64 l, .int .i64 (bits .or .i64 f x)] 23)).alloc (.cells #[.int .i64 0, .int .i64 0, .int .i64 0, .int .i64 0, .int .i64 0, .int .i64 0] 23)).drew := (Arr_at _ _ [.int .i64 0, .int .i64 0, .int .i64 0, .int .i64 0, .int .i64 0, .int .i64 0] 23 (by simp)).drew
  have K0 : Below w.heap.size w ((w.alloc (.cells #[.int .i64 m, .int .i64 c, .int .i64 g, .int .i64 i, .int .i64 l, .int .i64 (bits .or .i64 f x)] 23)).alloc (.cells #[.int .i64 0, .int .i64 0, .int .i64 0, .int .i64 0, .int .i64 0, .int .i64 0] 23)).drew := Below.drew (bel_al (bel_al (Below.refl _ _) _) _)
  refine wp_region_held_drew (S := fun w' => Arr w.heap.size [.int .i64 m, .int .i64 c, .int .i64 g, .int .i64 i, .int .i64 l, .int .i64 (bits .or .i64 f x)] w') (by kernel_rfl) A0 (fun hHeld => ?_)
  generalize ((w.alloc (.cells #[.int .i64 m, .int .i64 c, .int .i64 g, .int .i64 i, .int .i64 l, .int .i64 (bits .or .i64 f x)] 23)).alloc (.cells #[.int .i64 0, .int .i64 0, .int .i64 0, .int .i64 0, .int .i64 0, .int .i64 0] 23)).drew = w0 at *
  refine take_at (i := 1) (v := ?v1) rfl (by kernel_rfl) (by kernel_rfl) (by kernel_rfl) (fun _ _ _ h => h) (Or.inl ⟨by rfl, ?y1⟩) hHeld ?t1
  case y1 => (intro wx hSw; go_simp <;> with_reducible rfl)
  simp only [Act.put, List.setIfInBounds_toArray, List.set_cons_zero, List.set_cons_succ]
  refine take_at (i := 2) (v := ?v2) rfl (by kernel_rfl) (by kernel_rfl) (by kernel_rfl) (fun _ _ _ h => h) (Or.inl ⟨by rfl, ?y2⟩) hHeld ?t2
  case y2 => (intro wx hSw; have cw_0 : wx.cell? ⟨w.heap.size, 0, none⟩ = some (.int .i64 m) := hSw.c 0 (of_decide_eq_true rfl); have cw_1 : wx.cell? ⟨w.heap.size, 1, none⟩ = some (.int .i64 c) := hSw.c 1 (of_decide_eq_true rfl); have cw_2 : wx.cell? ⟨w.heap.size, 2, none⟩ = some (.int .i64 g) := hSw.c 2 (of_decide_eq_true rfl); have cw_3 : wx.cell? ⟨w.heap.size, 3, none⟩ = some (.int .i64 i) := hSw.c 3 (of_decide_eq_true rfl); have cw_4 : wx.cell? ⟨w.heap.size, 4, none⟩ = some (.int .i64 l) := hSw.c 4 (of_decide_eq_true rfl); have cw_5 : wx.cell? ⟨w.heap.size, 5, none⟩ = some (.int .i64 (bits .or .i64 f x)) := hSw.c 5 (of_decide_eq_true rfl); go_simp <;> with_reducible rfl)
  simp only [Act.put, List.setIfInBounds_toArray, List.set_cons_zero, List.set_cons_succ]
  refine take_at (i := 3) (v := ?v3) rfl (by kernel_rfl) (by kernel_rfl) (by kernel_rfl) (fun _ _ _ h => h) (Or.inl ⟨by rfl, ?y3⟩) hHeld ?t3
  case y3 => (intro wx hSw; go_simp <;> with_reducible rfl)
  simp only [Act.put, List.setIfInBounds_toArray, List.set_cons_zero, List.set_cons_succ]
  refine take_at (i := 4) (v := ?v4) rfl (by kernel_rfl) (by kernel_rfl) (by kernel_rfl) (fun _ _ _ h => h) (Or.inl ⟨by rfl, ?y4⟩) hHeld ?t4
  case y4 => (intro wx hSw; go_simp <;> with_reducible rfl)
  simp only [Act.put, List.setIfInBounds_toArray, List.set_cons_zero, List.set_cons_succ]
  refine take_at (i := 6) (v := ?v6) rfl (by kernel_rfl) (by kernel_rfl) (by kernel_rfl) (fun _ _ _ h => h) (Or.inl ⟨by rfl, ?y6⟩) hHeld ?t6
  case y6 => (intro wx hSw; have cw_0 : wx.cell? ⟨w.heap.size, 0, none⟩ = some (.int .i64 m) := hSw.c 0 (of_decide_eq_true rfl); have cw_1 : wx.cell? ⟨w.heap.size, 1, none⟩ = some (.int .i64 c) := hSw.c 1 (of_decide_eq_true rfl); have cw_2 : wx.cell? ⟨w.heap.size, 2, none⟩ = some (.int .i64 g) := hSw.c 2 (of_decide_eq_true rfl); have cw_3 : wx.cell? ⟨w.heap.size, 3, none⟩ = some (.int .i64 i) := hSw.c 3 (of_decide_eq_true rfl); have cw_4 : wx.cell? ⟨w.heap.size, 4, none⟩ = some (.int .i64 l) := hSw.c 4 (of_decide_eq_true rfl); have cw_5 : wx.cell? ⟨w.heap.size, 5, none⟩ = some (.int .i64 (bits .or .i64 f x)) := hSw.c 5 (of_decide_eq_true rfl); go_simp <;> with_reducible rfl)
  simp only [Act.put, List.setIfInBounds_toArray, List.set_cons_zero, List.set_cons_succ]
  refine call_at (i := 0) (by kernel_rfl) rfl (fun K hK => ?_)
  go_simp
  refine (leads_any _).mono ?_
  rintro e w1 ⟨k, rfl, hk, M, b1⟩
  have A0_1 := A0.below b1
  have A1_1 := A1.below b1
  have K1 := bel_then K0 b1
  clear hHeld
  refine hK.out _ _ A0_1 (fun hHeld => ?_)
  clear hK K A0 A1 K0
  have Lk := M.look hm hx
  rw [hl] at Lk
  refine call_at (i := 5) (by kernel_rfl) rfl (fun K hK => ?_)
  go_simp
  refine hK.out _ _ A0_1 (fun hHeld => ?_)
  clear hK K Lk
  refine call_at (i := 7) (by kernel_rfl) rfl (fun K hK => ?_)
  go_simp
  refine (goTo_any 1 m c g i l (bits .or .i64 f x) _).mono ?_
  rintro e w2 ⟨rfl, b2⟩
  have A0_2 := A0_1.below b2
  have A1_2 := A1_1.below b2
  have K2 := bel_then K1 b2
  clear hHeld
  refine hK.out _ _ A0_2 (fun hHeld => ?_)
  clear hK K A0_1 A1_1 K1
  have cz_0 : w2.cell? ⟨(w.heap.size + 1), 0, none⟩ = some (.int .i64 0) := A1_2.c 0 (of_decide_eq_true rfl)
  have gz_0 := A1_2.f 0 (of_decide_eq_true rfl)
  have cz_1 : w2.cell? ⟨(w.heap.size + 1), 1, none⟩ = some (.int .i64 0) := A1_2.c 1 (of_decide_eq_true rfl)
  have gz_1 := A1_2.f 1 (of_decide_eq_true rfl)
  have cz_2 : w2.cell? ⟨(w.heap.size + 1), 2, none⟩ = some (.int .i64 0) := A1_2.c 2 (of_decide_eq_true rfl)
  have gz_2 := A1_2.f 2 (of_decide_eq_true rfl)
  have cz_3 : w2.cell? ⟨(w.heap.size + 1), 3, none⟩ = some (.int .i64 0) := A1_2.c 3 (of_decide_eq_true rfl)
  have gz_3 := A1_2.f 3 (of_decide_eq_true rfl)
  have cz_4 : w2.cell? ⟨(w.heap.size + 1), 4, none⟩ = some (.int .i64 0) := A1_2.c 4 (of_decide_eq_true rfl)
  have gz_4 := A1_2.f 4 (of_decide_eq_true rfl)
  have cz_5 : w2.cell? ⟨(w.heap.size + 1), 5, none⟩ = some (.int .i64 0) := A1_2.c 5 (of_decide_eq_true rfl)
  have gz_5 := A1_2.f 5 (of_decide_eq_true rfl)
  have l2 := A1_2.lies
  refine call_at (i := 8) (by kernel_rfl) rfl (fun K hK => ?_)
  go_simp
  refine hK.out _ _ ((((((A0_2.new (w.heap.size + 1) 0 (by omega) (.int .i64 1)).new (w.heap.size + 1) 1 (by omega) (.int .i64 0)).new (w.heap.size + 1) 2 (by omega) (.int .i64 0)).new (w.heap.size + 1) 3 (by omega) (.int .i64 0)).new (w.heap.size + 1) 4 (by omega) (.int .i64 0)).new (w.heap.size + 1) 5 (by omega) (.int .i64 (bits .or .i64 f x))) (fun hHeld => ?_)
  refine wpAnyH_done (by kernel_rfl) ?_ _
  have A1_3 := ((((((A1_2.put 0 (of_decide_eq_true rfl) (.int .i64 1) [.int .i64 1, .int .i64 0, .int .i64 0, .int .i64 0, .int .i64 0, .int .i64 0] rfl).put 1 (of_decide_eq_true rfl) (.int .i64 0) [.int .i64 1, .int .i64 0, .int .i64 0, .int .i64 0, .int .i64 0, .int .i64 0] rfl).put 2 (of_decide_eq_true rfl) (.int .i64 0) [.int .i64 1, .int .i64 0, .int .i64 0, .int .i64 0, .int .i64 0, .int .i64 0] rfl).put 3 (of_decide_eq_true rfl) (.int .i64 0) [.int .i64 1, .int .i64 0, .int .i64 0, .int .i64 0, .int .i64 0, .int .i64 0] rfl).put 4 (of_decide_eq_true rfl) (.int .i64 0) [.int .i64 1, .int .i64 0, .int .i64 0, .int .i64 0, .int .i64 0, .int .i64 0] rfl).put 5 (of_decide_eq_true rfl) (.int .i64 (bits .or .i64 f x)) [.int .i64 1, .int .i64 0, .int .i64 0, .int .i64 0, .int .i64 0, .int .i64 (bits .or .i64 f x)] rfl)
  have K3 := (bel_new (bel_new (bel_new (bel_new (bel_new (bel_new K2 (w.heap.size + 1) 0 (by omega) (.int .i64 1)) (w.heap.size + 1) 1 (by omega) (.int .i64 0)) (w.heap.size + 1) 2 (by omega) (.int .i64 0)) (w.heap.size + 1) 3 (by omega) (.int .i64 0)) (w.heap.size + 1) 4 (by omega) (.int .i64 0)) (w.heap.size + 1) 5 (by omega) (.int .i64 (bits .or .i64 f x)))
  clear hHeld hK K
  go_wp2_with (with_reducible refine post_stop ?_)
  exact ⟨bodyPost_ret (v := .agg #[.int .i64 1, .int .i64 0, .int .i64 0, .int .i64 0, .int .i64 0, .int .i64 (bits .or .i64 f x)]) (results_arr Try.results15 A1_3 rfl (by kernel_rfl) (by kernel_rfl)) rfl ⟨rfl, K3⟩⟩
set_option maxRecDepth 100000 in
set_option maxHeartbeats 4000000 in
theorem safe_any (m c g i l f : Int) (gap gyro slow pair lit bad pass : Bool) (o : Int) (w : World)  : Calls Try.prog 13 #[.agg #[.int .i64 m, .int .i64 c, .int .i64 g, .int .i64 i, .int .i64 l, .int .i64 f], .agg #[.bool gap, .bool gyro, .bool slow, .bool pair, .bool lit, .bool bad, .bool pass, .int .i64 o]] w fun e w' => e = .returned (plV (safeS ⟨m, c, g, i, l, f⟩ ⟨gap, gyro, slow, pair, lit, bad, pass, o⟩)) ∧ Below w.heap.size w w' := by
  by_cases ho : o = 2
  · subst ho
    have HS : Hid (plV (safeS ⟨m, c, g, i, l, f⟩ ⟨gap, gyro, slow, pair, lit, bad, pass, 2⟩) = .agg #[.int .i64 0, .int .i64 0, .int .i64 0, .int .i64 0, .int .i64 0, .int .i64 0]) := by show plV _ = _; first | exact congrArg plV (if_pos rfl) | rfl | exact congrArg plV (if_neg t) | exact congrArg plV (if_neg u) | exact congrArg plV (if_pos u)
    go_enter Try.func13, Try.ntmps13
    go_wp2_with fail
    refine (goTo_any 0 m c g i l 0 _).mono ?_
    rintro e w1 ⟨rfl, b1⟩
    have A0_1 : Arr w.heap.size [.int .i64 m, .int .i64 c, .int .i64 g, .int .i64 i, .int .i64 l, .int .i64 0] w1 := (((Arr_at _ w.heap.size [.int .i64 m, .int .i64 c, .int .i64 g, .int .i64 i, .int .i64 l, .int .i64 0] 23 (by simp)).alloc _).alloc _).below b1
    have A1_1 : Arr (w.heap.size + 1) [.bool gap, .bool gyro, .bool slow, .bool pair, .bool lit, .bool bad, .bool pass, .int .i64 2] w1 := ((Arr_at _ (w.heap.size + 1) [.bool gap, .bool gyro, .bool slow, .bool pair, .bool lit, .bool bad, .bool pass, .int .i64 2] 25 (by simp)).alloc _).below b1
    have A2_1 : Arr (w.heap.size + 1 + 1) [.int .i64 0, .int .i64 0, .int .i64 0, .int .i64 0, .int .i64 0, .int .i64 0] w1 := (Arr_at _ (w.heap.size + 1 + 1) [.int .i64 0, .int .i64 0, .int .i64 0, .int .i64 0, .int .i64 0, .int .i64 0] 23 (by simp)).below b1
    have K1 : Below w.heap.size w w1 := bel_then (bel_al (bel_al (bel_al (Below.refl w.heap.size w) _) _) _) b1
    clear b1
    have cp_0 : w1.cell? ⟨w.heap.size, 0, none⟩ = some (.int .i64 m) := A0_1.c 0 (of_decide_eq_true rfl)
    have gp_0 := A0_1.f 0 (of_decide_eq_true rfl)
    have cp_1 : w1.cell? ⟨w.heap.size, 1, none⟩ = some (.int .i64 c) := A0_1.c 1 (of_decide_eq_true rfl)
    have gp_1 := A0_1.f 1 (of_decide_eq_true rfl)
    have cp_2 : w1.cell? ⟨w.heap.size, 2, none⟩ = some (.int .i64 g) := A0_1.c 2 (of_decide_eq_true rfl)
    have gp_2 := A0_1.f 2 (of_decide_eq_true rfl)
    have cp_3 : w1.cell? ⟨w.heap.size, 3, none⟩ = some (.int .i64 i) := A0_1.c 3 (of_decide_eq_true rfl)
    have gp_3 := A0_1.f 3 (of_decide_eq_true rfl)
    have cp_4 : w1.cell? ⟨w.heap.size, 4, none⟩ = some (.int .i64 l) := A0_1.c 4 (of_decide_eq_true rfl)
    have gp_4 := A0_1.f 4 (of_decide_eq_true rfl)
    have cp_5 : w1.cell? ⟨w.heap.size, 5, none⟩ = some (.int .i64 0) := A0_1.c 5 (of_decide_eq_true rfl)
    have gp_5 := A0_1.f 5 (of_decide_eq_true rfl)
    have cs_0 : w1.cell? ⟨(w.heap.size + 1), 0, none⟩ = some (.bool gap) := A1_1.c 0 (of_decide_eq_true rfl)
    have cs_1 : w1.cell? ⟨(w.heap.size + 1), 1, none⟩ = some (.bool gyro) := A1_1.c 1 (of_decide_eq_true rfl)
    have cs_2 : w1.cell? ⟨(w.heap.size + 1), 2, none⟩ = some (.bool slow) := A1_1.c 2 (of_decide_eq_true rfl)
    have cs_3 : w1.cell? ⟨(w.heap.size + 1), 3, none⟩ = some (.bool pair) := A1_1.c 3 (of_decide_eq_true rfl)
    have cs_4 : w1.cell? ⟨(w.heap.size + 1), 4, none⟩ = some (.bool lit) := A1_1.c 4 (of_decide_eq_true rfl)
    have cs_5 : w1.cell? ⟨(w.heap.size + 1), 5, none⟩ = some (.bool bad) := A1_1.c 5 (of_decide_eq_true rfl)
    have cs_6 : w1.cell? ⟨(w.heap.size + 1), 6, none⟩ = some (.bool pass) := A1_1.c 6 (of_decide_eq_true rfl)
    have cs_7 : w1.cell? ⟨(w.heap.size + 1), 7, none⟩ = some (.int .i64 2) := A1_1.c 7 (of_decide_eq_true rfl)
    have cz_0 : w1.cell? ⟨(w.heap.size + 1 + 1), 0, none⟩ = some (.int .i64 0) := A2_1.c 0 (of_decide_eq_true rfl)
    have gz_0 := A2_1.f 0 (of_decide_eq_true rfl)
    have cz_1 : w1.cell? ⟨(w.heap.size + 1 + 1), 1, none⟩ = some (.int .i64 0) := A2_1.c 1 (of_decide_eq_true rfl)
    have gz_1 := A2_1.f 1 (of_decide_eq_true rfl)
    have cz_2 : w1.cell? ⟨(w.heap.size + 1 + 1), 2, none⟩ = some (.int .i64 0) := A2_1.c 2 (of_decide_eq_true rfl)
    have gz_2 := A2_1.f 2 (of_decide_eq_true rfl)
    have cz_3 : w1.cell? ⟨(w.heap.size + 1 + 1), 3, none⟩ = some (.int .i64 0) := A2_1.c 3 (of_decide_eq_true rfl)
    have gz_3 := A2_1.f 3 (of_decide_eq_true rfl)
    have cz_4 : w1.cell? ⟨(w.heap.size + 1 + 1), 4, none⟩ = some (.int .i64 0) := A2_1.c 4 (of_decide_eq_true rfl)
    have gz_4 := A2_1.f 4 (of_decide_eq_true rfl)
    have cz_5 : w1.cell? ⟨(w.heap.size + 1 + 1), 5, none⟩ = some (.int .i64 0) := A2_1.c 5 (of_decide_eq_true rfl)
    have gz_5 := A2_1.f 5 (of_decide_eq_true rfl)
    have l1 := A2_1.lies
    go_wp2_with (with_reducible refine post_stop ?_)
    have A9 := ((((((A2_1.put 0 (of_decide_eq_true rfl) (.int .i64 0) [.int .i64 0, .int .i64 0, .int .i64 0, .int .i64 0, .int .i64 0, .int .i64 0] rfl).put 1 (of_decide_eq_true rfl) (.int .i64 0) [.int .i64 0, .int .i64 0, .int .i64 0, .int .i64 0, .int .i64 0, .int .i64 0] rfl).put 2 (of_decide_eq_true rfl) (.int .i64 0) [.int .i64 0, .int .i64 0, .int .i64 0, .int .i64 0, .int .i64 0, .int .i64 0] rfl).put 3 (of_decide_eq_true rfl) (.int .i64 0) [.int .i64 0, .int .i64 0, .int .i64 0, .int .i64 0, .int .i64 0, .int .i64 0] rfl).put 4 (of_decide_eq_true rfl) (.int .i64 0) [.int .i64 0, .int .i64 0, .int .i64 0, .int .i64 0, .int .i64 0, .int .i64 0] rfl).put 5 (of_decide_eq_true rfl) (.int .i64 0) [.int .i64 0, .int .i64 0, .int .i64 0, .int .i64 0, .int .i64 0, .int .i64 0] rfl)
    have K9 := (bel_new (bel_new (bel_new (bel_new (bel_new (bel_new K1 (w.heap.size + 1 + 1) 0 (by omega) (.int .i64 0)) (w.heap.size + 1 + 1) 1 (by omega) (.int .i64 0)) (w.heap.size + 1 + 1) 2 (by omega) (.int .i64 0)) (w.heap.size + 1 + 1) 3 (by omega) (.int .i64 0)) (w.heap.size + 1 + 1) 4 (by omega) (.int .i64 0)) (w.heap.size + 1 + 1) 5 (by omega) (.int .i64 0))
    clear cp_0 gp_0 cp_1 gp_1 cp_2 gp_2 cp_3 gp_3 cp_4 gp_4 cp_5 gp_5 cs_0 cs_1 cs_2 cs_3 cs_4 cs_5 cs_6 cs_7 cz_0 gz_0 cz_1 gz_1 cz_2 gz_2 cz_3 gz_3 cz_4 gz_4 cz_5 gz_5
    exact ⟨bodyPost_ret (v := .agg #[.int .i64 0, .int .i64 0, .int .i64 0, .int .i64 0, .int .i64 0, .int .i64 0]) (results_arr Try.results13 A9 rfl (by kernel_rfl) (by kernel_rfl)) rfl ⟨by rw [HS.out], K9⟩⟩
  · have HS : Hid (plV (safeS ⟨m, c, g, i, l, f⟩ ⟨gap, gyro, slow, pair, lit, bad, pass, o⟩) = .agg #[.int .i64 m, .int .i64 c, .int .i64 g, .int .i64 i, .int .i64 l, .int .i64 f]) := by show plV _ = _; first | exact congrArg plV (if_neg ho) | rfl | exact congrArg plV (if_neg t) | exact congrArg plV (if_neg u) | exact congrArg plV (if_pos u)
    go_enter Try.func13, Try.ntmps13
    go_wp2_with (with_reducible refine post_stop ?_)
    exact ⟨bodyPost_ret (v := .agg #[.int .i64 m, .int .i64 c, .int .i64 g, .int .i64 i, .int .i64 l, .int .i64 f]) (by simp [results, Try.results13, go_sem]) rfl ⟨by rw [HS.out], (bel_al (bel_al (bel_al (Below.refl w.heap.size w) _) _) _)⟩⟩
set_option maxRecDepth 100000 in
set_option maxHeartbeats 4000000 in
theorem det_any (m c g i l f : Int) (gap gyro slow pair lit bad pass : Bool) (o : Int) (w : World) (hc : I64 c) : Calls Try.prog 14 #[.agg #[.int .i64 m, .int .i64 c, .int .i64 g, .int .i64 i, .int .i64 l, .int .i64 f], .agg #[.bool gap, .bool gyro, .bool slow, .bool pair, .bool lit, .bool bad, .bool pass, .int .i64 o]] w fun e w' => e = .returned (plV (detS ⟨m, c, g, i, l, f⟩ ⟨gap, gyro, slow, pair, lit, bad, pass, o⟩)) ∧ Below w.heap.size w w' := by
  cases gyro
  · cases slow
    · by_cases t : 3 ≤ cntS c false
      · have HS : Hid (plV (detS ⟨m, c, g, i, l, f⟩ ⟨gap, false, false, pair, lit, bad, pass, o⟩) = .agg #[.int .i64 1, .int .i64 0, .int .i64 0, .int .i64 0, .int .i64 0, .int .i64 f]) := by show plV _ = _; first | exact congrArg plV (if_pos t) | rfl | exact congrArg plV (if_neg t) | exact congrArg plV (if_neg u) | exact congrArg plV (if_pos u)
        go_enter Try.func14, Try.ntmps14
        go_wp2_with fail
        refine (counted_any c false _ hc).mono ?_
        rintro e w1 ⟨rfl, b1⟩
        have A0_1 : Arr w.heap.size [.int .i64 m, .int .i64 c, .int .i64 g, .int .i64 i, .int .i64 l, .int .i64 f] w1 := (((Arr_at _ w.heap.size [.int .i64 m, .int .i64 c, .int .i64 g, .int .i64 i, .int .i64 l, .int .i64 f] 23 (by simp)).alloc _).alloc _).below b1
        have A1_1 : Arr (w.heap.size + 1) [.bool gap, .bool false, .bool false, .bool pair, .bool lit, .bool bad, .bool pass, .int .i64 o] w1 := ((Arr_at _ (w.heap.size + 1) [.bool gap, .bool false, .bool false, .bool pair, .bool lit, .bool bad, .bool pass, .int .i64 o] 25 (by simp)).alloc _).below b1
        have A2_1 : Arr (w.heap.size + 1 + 1) [.int .i64 0, .int .i64 0, .int .i64 0, .int .i64 0, .int .i64 0, .int .i64 0] w1 := (Arr_at _ (w.heap.size + 1 + 1) [.int .i64 0, .int .i64 0, .int .i64 0, .int .i64 0, .int .i64 0, .int .i64 0] 23 (by simp)).below b1
        have K1 : Below w.heap.size w w1 := bel_then (bel_al (bel_al (bel_al (Below.refl w.heap.size w) _) _) _) b1
        clear b1
        have cp_0 : w1.cell? ⟨w.heap.size, 0, none⟩ = some (.int .i64 m) := A0_1.c 0 (of_decide_eq_true rfl)
        have gp_0 := A0_1.f 0 (of_decide_eq_true rfl)
        have cp_1 : w1.cell? ⟨w.heap.size, 1, none⟩ = some (.int .i64 c) := A0_1.c 1 (of_decide_eq_true rfl)
        have gp_1 := A0_1.f 1 (of_decide_eq_true rfl)
        have cp_2 : w1.cell? ⟨w.heap.size, 2, none⟩ = some (.int .i64 g) := A0_1.c 2 (of_decide_eq_true rfl)
        have gp_2 := A0_1.f 2 (of_decide_eq_true rfl)
        have cp_3 : w1.cell? ⟨w.heap.size, 3, none⟩ = some (.int .i64 i) := A0_1.c 3 (of_decide_eq_true rfl)
        have gp_3 := A0_1.f 3 (of_decide_eq_true rfl)
        have cp_4 : w1.cell? ⟨w.heap.size, 4, none⟩ = some (.int .i64 l) := A0_1.c 4 (of_decide_eq_true rfl)
        have gp_4 := A0_1.f 4 (of_decide_eq_true rfl)
        have cp_5 : w1.cell? ⟨w.heap.size, 5, none⟩ = some (.int .i64 f) := A0_1.c 5 (of_decide_eq_true rfl)
        have gp_5 := A0_1.f 5 (of_decide_eq_true rfl)
        have cs_0 : w1.cell? ⟨(w.heap.size + 1), 0, none⟩ = some (.bool gap) := A1_1.c 0 (of_decide_eq_true rfl)
        have cs_1 : w1.cell? ⟨(w.heap.size + 1), 1, none⟩ = some (.bool false) := A1_1.c 1 (of_decide_eq_true rfl)
        have cs_2 : w1.cell? ⟨(w.heap.size + 1), 2, none⟩ = some (.bool false) := A1_1.c 2 (of_decide_eq_true rfl)
        have cs_3 : w1.cell? ⟨(w.heap.size + 1), 3, none⟩ = some (.bool pair) := A1_1.c 3 (of_decide_eq_true rfl)
        have cs_4 : w1.cell? ⟨(w.heap.size + 1), 4, none⟩ = some (.bool lit) := A1_1.c 4 (of_decide_eq_true rfl)
        have cs_5 : w1.cell? ⟨(w.heap.size + 1), 5, none⟩ = some (.bool bad) := A1_1.c 5 (of_decide_eq_true rfl)
        have cs_6 : w1.cell? ⟨(w.heap.size + 1), 6, none⟩ = some (.bool pass) := A1_1.c 6 (of_decide_eq_true rfl)
        have cs_7 : w1.cell? ⟨(w.heap.size + 1), 7, none⟩ = some (.int .i64 o) := A1_1.c 7 (of_decide_eq_true rfl)
        have cz_0 : w1.cell? ⟨(w.heap.size + 1 + 1), 0, none⟩ = some (.int .i64 0) := A2_1.c 0 (of_decide_eq_true rfl)
        have gz_0 := A2_1.f 0 (of_decide_eq_true rfl)
        have cz_1 : w1.cell? ⟨(w.heap.size + 1 + 1), 1, none⟩ = some (.int .i64 0) := A2_1.c 1 (of_decide_eq_true rfl)
        have gz_1 := A2_1.f 1 (of_decide_eq_true rfl)
        have cz_2 : w1.cell? ⟨(w.heap.size + 1 + 1), 2, none⟩ = some (.int .i64 0) := A2_1.c 2 (of_decide_eq_true rfl)
        have gz_2 := A2_1.f 2 (of_decide_eq_true rfl)
        have cz_3 : w1.cell? ⟨(w.heap.size + 1 + 1), 3, none⟩ = some (.int .i64 0) := A2_1.c 3 (of_decide_eq_true rfl)
        have gz_3 := A2_1.f 3 (of_decide_eq_true rfl)
        have cz_4 : w1.cell? ⟨(w.heap.size + 1 + 1), 4, none⟩ = some (.int .i64 0) := A2_1.c 4 (of_decide_eq_true rfl)
        have gz_4 := A2_1.f 4 (of_decide_eq_true rfl)
        have cz_5 : w1.cell? ⟨(w.heap.size + 1 + 1), 5, none⟩ = some (.int .i64 0) := A2_1.c 5 (of_decide_eq_true rfl)
        have gz_5 := A2_1.f 5 (of_decide_eq_true rfl)
        have l1 := A2_1.lies
        go_wp2_with fail
        refine (goTo_any 1 m (cntS c false) g i l f _).mono ?_
        rintro e w2 ⟨rfl, b2⟩
        have A0_2 : Arr w.heap.size [.int .i64 m, .int .i64 (cntS c false), .int .i64 g, .int .i64 i, .int .i64 l, .int .i64 f] w2 := (A0_1.put 1 (of_decide_eq_true rfl) (.int .i64 (cntS c false)) [.int .i64 m, .int .i64 (cntS c false), .int .i64 g, .int .i64 i, .int .i64 l, .int .i64 f] rfl).below b2
        have A1_2 : Arr (w.heap.size + 1) [.bool gap, .bool false, .bool false, .bool pair, .bool lit, .bool bad, .bool pass, .int .i64 o] w2 := (A1_1.new w.heap.size 1 (by omega) (.int .i64 (cntS c false))).below b2
        have A2_2 : Arr (w.heap.size + 1 + 1) [.int .i64 0, .int .i64 0, .int .i64 0, .int .i64 0, .int .i64 0, .int .i64 0] w2 := (A2_1.new w.heap.size 1 (by omega) (.int .i64 (cntS c false))).below b2
        have K2 : Below w.heap.size w w2 := bel_then (bel_new K1 w.heap.size 1 (by omega) (.int .i64 (cntS c false))) b2
        clear A0_1 A1_1 A2_1 K1 cp_0 gp_0 cp_1 gp_1 cp_2 gp_2 cp_3 gp_3 cp_4 gp_4 cp_5 gp_5 cs_0 cs_1 cs_2 cs_3 cs_4 cs_5 cs_6 cs_7 cz_0 gz_0 cz_1 gz_1 cz_2 gz_2 cz_3 gz_3 cz_4 gz_4 cz_5 gz_5 l1
        clear b2
        have cp_0 : w2.cell? ⟨w.heap.size, 0, none⟩ = some (.int .i64 m) := A0_2.c 0 (of_decide_eq_true rfl)
        have gp_0 := A0_2.f 0 (of_decide_eq_true rfl)
        have cp_1 : w2.cell? ⟨w.heap.size, 1, none⟩ = some (.int .i64 (cntS c false)) := A0_2.c 1 (of_decide_eq_true rfl)
        have gp_1 := A0_2.f 1 (of_decide_eq_true rfl)
        have cp_2 : w2.cell? ⟨w.heap.size, 2, none⟩ = some (.int .i64 g) := A0_2.c 2 (of_decide_eq_true rfl)
        have gp_2 := A0_2.f 2 (of_decide_eq_true rfl)
        have cp_3 : w2.cell? ⟨w.heap.size, 3, none⟩ = some (.int .i64 i) := A0_2.c 3 (of_decide_eq_true rfl)
        have gp_3 := A0_2.f 3 (of_decide_eq_true rfl)
        have cp_4 : w2.cell? ⟨w.heap.size, 4, none⟩ = some (.int .i64 l) := A0_2.c 4 (of_decide_eq_true rfl)
        have gp_4 := A0_2.f 4 (of_decide_eq_true rfl)
        have cp_5 : w2.cell? ⟨w.heap.size, 5, none⟩ = some (.int .i64 f) := A0_2.c 5 (of_decide_eq_true rfl)
        have gp_5 := A0_2.f 5 (of_decide_eq_true rfl)
        have cs_0 : w2.cell? ⟨(w.heap.size + 1), 0, none⟩ = some (.bool gap) := A1_2.c 0 (of_decide_eq_true rfl)
        have cs_1 : w2.cell? ⟨(w.heap.size + 1), 1, none⟩ = some (.bool false) := A1_2.c 1 (of_decide_eq_true rfl)
        have cs_2 : w2.cell? ⟨(w.heap.size + 1), 2, none⟩ = some (.bool false) := A1_2.c 2 (of_decide_eq_true rfl)
        have cs_3 : w2.cell? ⟨(w.heap.size + 1), 3, none⟩ = some (.bool pair) := A1_2.c 3 (of_decide_eq_true rfl)
        have cs_4 : w2.cell? ⟨(w.heap.size + 1), 4, none⟩ = some (.bool lit) := A1_2.c 4 (of_decide_eq_true rfl)
        have cs_5 : w2.cell? ⟨(w.heap.size + 1), 5, none⟩ = some (.bool bad) := A1_2.c 5 (of_decide_eq_true rfl)
        have cs_6 : w2.cell? ⟨(w.heap.size + 1), 6, none⟩ = some (.bool pass) := A1_2.c 6 (of_decide_eq_true rfl)
        have cs_7 : w2.cell? ⟨(w.heap.size + 1), 7, none⟩ = some (.int .i64 o) := A1_2.c 7 (of_decide_eq_true rfl)
        have cz_0 : w2.cell? ⟨(w.heap.size + 1 + 1), 0, none⟩ = some (.int .i64 0) := A2_2.c 0 (of_decide_eq_true rfl)
        have gz_0 := A2_2.f 0 (of_decide_eq_true rfl)
        have cz_1 : w2.cell? ⟨(w.heap.size + 1 + 1), 1, none⟩ = some (.int .i64 0) := A2_2.c 1 (of_decide_eq_true rfl)
        have gz_1 := A2_2.f 1 (of_decide_eq_true rfl)
        have cz_2 : w2.cell? ⟨(w.heap.size + 1 + 1), 2, none⟩ = some (.int .i64 0) := A2_2.c 2 (of_decide_eq_true rfl)
        have gz_2 := A2_2.f 2 (of_decide_eq_true rfl)
        have cz_3 : w2.cell? ⟨(w.heap.size + 1 + 1), 3, none⟩ = some (.int .i64 0) := A2_2.c 3 (of_decide_eq_true rfl)
        have gz_3 := A2_2.f 3 (of_decide_eq_true rfl)
        have cz_4 : w2.cell? ⟨(w.heap.size + 1 + 1), 4, none⟩ = some (.int .i64 0) := A2_2.c 4 (of_decide_eq_true rfl)
        have gz_4 := A2_2.f 4 (of_decide_eq_true rfl)
        have cz_5 : w2.cell? ⟨(w.heap.size + 1 + 1), 5, none⟩ = some (.int .i64 0) := A2_2.c 5 (of_decide_eq_true rfl)
        have gz_5 := A2_2.f 5 (of_decide_eq_true rfl)
        have l2 := A2_2.lies
        go_wp2_with (with_reducible refine post_stop ?_)
        have A9 := ((((((A2_2.put 0 (of_decide_eq_true rfl) (.int .i64 1) [.int .i64 1, .int .i64 0, .int .i64 0, .int .i64 0, .int .i64 0, .int .i64 0] rfl).put 1 (of_decide_eq_true rfl) (.int .i64 0) [.int .i64 1, .int .i64 0, .int .i64 0, .int .i64 0, .int .i64 0, .int .i64 0] rfl).put 2 (of_decide_eq_true rfl) (.int .i64 0) [.int .i64 1, .int .i64 0, .int .i64 0, .int .i64 0, .int .i64 0, .int .i64 0] rfl).put 3 (of_decide_eq_true rfl) (.int .i64 0) [.int .i64 1, .int .i64 0, .int .i64 0, .int .i64 0, .int .i64 0, .int .i64 0] rfl).put 4 (of_decide_eq_true rfl) (.int .i64 0) [.int .i64 1, .int .i64 0, .int .i64 0, .int .i64 0, .int .i64 0, .int .i64 0] rfl).put 5 (of_decide_eq_true rfl) (.int .i64 f) [.int .i64 1, .int .i64 0, .int .i64 0, .int .i64 0, .int .i64 0, .int .i64 f] rfl)
        have K9 := (bel_new (bel_new (bel_new (bel_new (bel_new (bel_new K2 (w.heap.size + 1 + 1) 0 (by omega) (.int .i64 1)) (w.heap.size + 1 + 1) 1 (by omega) (.int .i64 0)) (w.heap.size + 1 + 1) 2 (by omega) (.int .i64 0)) (w.heap.size + 1 + 1) 3 (by omega) (.int .i64 0)) (w.heap.size + 1 + 1) 4 (by omega) (.int .i64 0)) (w.heap.size + 1 + 1) 5 (by omega) (.int .i64 f))
        clear cp_0 gp_0 cp_1 gp_1 cp_2 gp_2 cp_3 gp_3 cp_4 gp_4 cp_5 gp_5 cs_0 cs_1 cs_2 cs_3 cs_4 cs_5 cs_6 cs_7 cz_0 gz_0 cz_1 gz_1 cz_2 gz_2 cz_3 gz_3 cz_4 gz_4 cz_5 gz_5
        exact ⟨bodyPost_ret (v := .agg #[.int .i64 1, .int .i64 0, .int .i64 0, .int .i64 0, .int .i64 0, .int .i64 f]) (results_arr Try.results14 A9 rfl (by kernel_rfl) (by kernel_rfl)) rfl ⟨by rw [HS.out], K9⟩⟩
      · have HS : Hid (plV (detS ⟨m, c, g, i, l, f⟩ ⟨gap, false, false, pair, lit, bad, pass, o⟩) = .agg #[.int .i64 m, .int .i64 (cntS c false), .int .i64 g, .int .i64 i, .int .i64 l, .int .i64 f]) := by show plV _ = _; first | exact congrArg plV (if_neg t) | rfl | exact congrArg plV (if_neg t) | exact congrArg plV (if_neg u) | exact congrArg plV (if_pos u)
        go_enter Try.func14, Try.ntmps14
        go_wp2_with fail
        refine (counted_any c false _ hc).mono ?_
        rintro e w1 ⟨rfl, b1⟩
        have A0_1 : Arr w.heap.size [.int .i64 m, .int .i64 c, .int .i64 g, .int .i64 i, .int .i64 l, .int .i64 f] w1 := (((Arr_at _ w.heap.size [.int .i64 m, .int .i64 c, .int .i64 g, .int .i64 i, .int .i64 l, .int .i64 f] 23 (by simp)).alloc _).alloc _).below b1
        have A1_1 : Arr (w.heap.size + 1) [.bool gap, .bool false, .bool false, .bool pair, .bool lit, .bool bad, .bool pass, .int .i64 o] w1 := ((Arr_at _ (w.heap.size + 1) [.bool gap, .bool false, .bool false, .bool pair, .bool lit, .bool bad, .bool pass, .int .i64 o] 25 (by simp)).alloc _).below b1
        have A2_1 : Arr (w.heap.size + 1 + 1) [.int .i64 0, .int .i64 0, .int .i64 0, .int .i64 0, .int .i64 0, .int .i64 0] w1 := (Arr_at _ (w.heap.size + 1 + 1) [.int .i64 0, .int .i64 0, .int .i64 0, .int .i64 0, .int .i64 0, .int .i64 0] 23 (by simp)).below b1
        have K1 : Below w.heap.size w w1 := bel_then (bel_al (bel_al (bel_al (Below.refl w.heap.size w) _) _) _) b1
        clear b1
        have cp_0 : w1.cell? ⟨w.heap.size, 0, none⟩ = some (.int .i64 m) := A0_1.c 0 (of_decide_eq_true rfl)
        have gp_0 := A0_1.f 0 (of_decide_eq_true rfl)
        have cp_1 : w1.cell? ⟨w.heap.size, 1, none⟩ = some (.int .i64 c) := A0_1.c 1 (of_decide_eq_true rfl)
        have gp_1 := A0_1.f 1 (of_decide_eq_true rfl)
        have cp_2 : w1.cell? ⟨w.heap.size, 2, none⟩ = some (.int .i64 g) := A0_1.c 2 (of_decide_eq_true rfl)
        have gp_2 := A0_1.f 2 (of_decide_eq_true rfl)
        have cp_3 : w1.cell? ⟨w.heap.size, 3, none⟩ = some (.int .i64 i) := A0_1.c 3 (of_decide_eq_true rfl)
        have gp_3 := A0_1.f 3 (of_decide_eq_true rfl)
        have cp_4 : w1.cell? ⟨w.heap.size, 4, none⟩ = some (.int .i64 l) := A0_1.c 4 (of_decide_eq_true rfl)
        have gp_4 := A0_1.f 4 (of_decide_eq_true rfl)
        have cp_5 : w1.cell? ⟨w.heap.size, 5, none⟩ = some (.int .i64 f) := A0_1.c 5 (of_decide_eq_true rfl)
        have gp_5 := A0_1.f 5 (of_decide_eq_true rfl)
        have cs_0 : w1.cell? ⟨(w.heap.size + 1), 0, none⟩ = some (.bool gap) := A1_1.c 0 (of_decide_eq_true rfl)
        have cs_1 : w1.cell? ⟨(w.heap.size + 1), 1, none⟩ = some (.bool false) := A1_1.c 1 (of_decide_eq_true rfl)
        have cs_2 : w1.cell? ⟨(w.heap.size + 1), 2, none⟩ = some (.bool false) := A1_1.c 2 (of_decide_eq_true rfl)
        have cs_3 : w1.cell? ⟨(w.heap.size + 1), 3, none⟩ = some (.bool pair) := A1_1.c 3 (of_decide_eq_true rfl)
        have cs_4 : w1.cell? ⟨(w.heap.size + 1), 4, none⟩ = some (.bool lit) := A1_1.c 4 (of_decide_eq_true rfl)
        have cs_5 : w1.cell? ⟨(w.heap.size + 1), 5, none⟩ = some (.bool bad) := A1_1.c 5 (of_decide_eq_true rfl)
        have cs_6 : w1.cell? ⟨(w.heap.size + 1), 6, none⟩ = some (.bool pass) := A1_1.c 6 (of_decide_eq_true rfl)
        have cs_7 : w1.cell? ⟨(w.heap.size + 1), 7, none⟩ = some (.int .i64 o) := A1_1.c 7 (of_decide_eq_true rfl)
        have cz_0 : w1.cell? ⟨(w.heap.size + 1 + 1), 0, none⟩ = some (.int .i64 0) := A2_1.c 0 (of_decide_eq_true rfl)
        have gz_0 := A2_1.f 0 (of_decide_eq_true rfl)
        have cz_1 : w1.cell? ⟨(w.heap.size + 1 + 1), 1, none⟩ = some (.int .i64 0) := A2_1.c 1 (of_decide_eq_true rfl)
        have gz_1 := A2_1.f 1 (of_decide_eq_true rfl)
        have cz_2 : w1.cell? ⟨(w.heap.size + 1 + 1), 2, none⟩ = some (.int .i64 0) := A2_1.c 2 (of_decide_eq_true rfl)
        have gz_2 := A2_1.f 2 (of_decide_eq_true rfl)
        have cz_3 : w1.cell? ⟨(w.heap.size + 1 + 1), 3, none⟩ = some (.int .i64 0) := A2_1.c 3 (of_decide_eq_true rfl)
        have gz_3 := A2_1.f 3 (of_decide_eq_true rfl)
        have cz_4 : w1.cell? ⟨(w.heap.size + 1 + 1), 4, none⟩ = some (.int .i64 0) := A2_1.c 4 (of_decide_eq_true rfl)
        have gz_4 := A2_1.f 4 (of_decide_eq_true rfl)
        have cz_5 : w1.cell? ⟨(w.heap.size + 1 + 1), 5, none⟩ = some (.int .i64 0) := A2_1.c 5 (of_decide_eq_true rfl)
        have gz_5 := A2_1.f 5 (of_decide_eq_true rfl)
        have l1 := A2_1.lies
        go_wp2_with (with_reducible refine post_stop ?_)
        have A9 := (((((((A2_1.new w.heap.size 1 (by omega) (.int .i64 (cntS c false))).put 0 (of_decide_eq_true rfl) (.int .i64 m) [.int .i64 m, .int .i64 0, .int .i64 0, .int .i64 0, .int .i64 0, .int .i64 0] rfl).put 1 (of_decide_eq_true rfl) (.int .i64 (cntS c false)) [.int .i64 m, .int .i64 (cntS c false), .int .i64 0, .int .i64 0, .int .i64 0, .int .i64 0] rfl).put 2 (of_decide_eq_true rfl) (.int .i64 g) [.int .i64 m, .int .i64 (cntS c false), .int .i64 g, .int .i64 0, .int .i64 0, .int .i64 0] rfl).put 3 (of_decide_eq_true rfl) (.int .i64 i) [.int .i64 m, .int .i64 (cntS c false), .int .i64 g, .int .i64 i, .int .i64 0, .int .i64 0] rfl).put 4 (of_decide_eq_true rfl) (.int .i64 l) [.int .i64 m, .int .i64 (cntS c false), .int .i64 g, .int .i64 i, .int .i64 l, .int .i64 0] rfl).put 5 (of_decide_eq_true rfl) (.int .i64 f) [.int .i64 m, .int .i64 (cntS c false), .int .i64 g, .int .i64 i, .int .i64 l, .int .i64 f] rfl)
        have K9 := (bel_new (bel_new (bel_new (bel_new (bel_new (bel_new (bel_new K1 w.heap.size 1 (by omega) (.int .i64 (cntS c false))) (w.heap.size + 1 + 1) 0 (by omega) (.int .i64 m)) (w.heap.size + 1 + 1) 1 (by omega) (.int .i64 (cntS c false))) (w.heap.size + 1 + 1) 2 (by omega) (.int .i64 g)) (w.heap.size + 1 + 1) 3 (by omega) (.int .i64 i)) (w.heap.size + 1 + 1) 4 (by omega) (.int .i64 l)) (w.heap.size + 1 + 1) 5 (by omega) (.int .i64 f))
        clear cp_0 gp_0 cp_1 gp_1 cp_2 gp_2 cp_3 gp_3 cp_4 gp_4 cp_5 gp_5 cs_0 cs_1 cs_2 cs_3 cs_4 cs_5 cs_6 cs_7 cz_0 gz_0 cz_1 gz_1 cz_2 gz_2 cz_3 gz_3 cz_4 gz_4 cz_5 gz_5
        exact ⟨bodyPost_ret (v := .agg #[.int .i64 m, .int .i64 (cntS c false), .int .i64 g, .int .i64 i, .int .i64 l, .int .i64 f]) (results_arr Try.results14 A9 rfl (by kernel_rfl) (by kernel_rfl)) rfl ⟨by rw [HS.out], K9⟩⟩
    · by_cases t : 3 ≤ cntS c false
      · have HS : Hid (plV (detS ⟨m, c, g, i, l, f⟩ ⟨gap, false, true, pair, lit, bad, pass, o⟩) = .agg #[.int .i64 1, .int .i64 0, .int .i64 0, .int .i64 0, .int .i64 0, .int .i64 f]) := by show plV _ = _; first | exact congrArg plV (if_pos t) | rfl | exact congrArg plV (if_neg t) | exact congrArg plV (if_neg u) | exact congrArg plV (if_pos u)
        go_enter Try.func14, Try.ntmps14
        go_wp2_with fail
        refine (counted_any c false _ hc).mono ?_
        rintro e w1 ⟨rfl, b1⟩
        have A0_1 : Arr w.heap.size [.int .i64 m, .int .i64 c, .int .i64 g, .int .i64 i, .int .i64 l, .int .i64 f] w1 := (((Arr_at _ w.heap.size [.int .i64 m, .int .i64 c, .int .i64 g, .int .i64 i, .int .i64 l, .int .i64 f] 23 (by simp)).alloc _).alloc _).below b1
        have A1_1 : Arr (w.heap.size + 1) [.bool gap, .bool false, .bool true, .bool pair, .bool lit, .bool bad, .bool pass, .int .i64 o] w1 := ((Arr_at _ (w.heap.size + 1) [.bool gap, .bool false, .bool true, .bool pair, .bool lit, .bool bad, .bool pass, .int .i64 o] 25 (by simp)).alloc _).below b1
        have A2_1 : Arr (w.heap.size + 1 + 1) [.int .i64 0, .int .i64 0, .int .i64 0, .int .i64 0, .int .i64 0, .int .i64 0] w1 := (Arr_at _ (w.heap.size + 1 + 1) [.int .i64 0, .int .i64 0, .int .i64 0, .int .i64 0, .int .i64 0, .int .i64 0] 23 (by simp)).below b1
        have K1 : Below w.heap.size w w1 := bel_then (bel_al (bel_al (bel_al (Below.refl w.heap.size w) _) _) _) b1
        clear b1
        have cp_0 : w1.cell? ⟨w.heap.size, 0, none⟩ = some (.int .i64 m) := A0_1.c 0 (of_decide_eq_true rfl)
        have gp_0 := A0_1.f 0 (of_decide_eq_true rfl)
        have cp_1 : w1.cell? ⟨w.heap.size, 1, none⟩ = some (.int .i64 c) := A0_1.c 1 (of_decide_eq_true rfl)
        have gp_1 := A0_1.f 1 (of_decide_eq_true rfl)
        have cp_2 : w1.cell? ⟨w.heap.size, 2, none⟩ = some (.int .i64 g) := A0_1.c 2 (of_decide_eq_true rfl)
        have gp_2 := A0_1.f 2 (of_decide_eq_true rfl)
        have cp_3 : w1.cell? ⟨w.heap.size, 3, none⟩ = some (.int .i64 i) := A0_1.c 3 (of_decide_eq_true rfl)
        have gp_3 := A0_1.f 3 (of_decide_eq_true rfl)
        have cp_4 : w1.cell? ⟨w.heap.size, 4, none⟩ = some (.int .i64 l) := A0_1.c 4 (of_decide_eq_true rfl)
        have gp_4 := A0_1.f 4 (of_decide_eq_true rfl)
        have cp_5 : w1.cell? ⟨w.heap.size, 5, none⟩ = some (.int .i64 f) := A0_1.c 5 (of_decide_eq_true rfl)
        have gp_5 := A0_1.f 5 (of_decide_eq_true rfl)
        have cs_0 : w1.cell? ⟨(w.heap.size + 1), 0, none⟩ = some (.bool gap) := A1_1.c 0 (of_decide_eq_true rfl)
        have cs_1 : w1.cell? ⟨(w.heap.size + 1), 1, none⟩ = some (.bool false) := A1_1.c 1 (of_decide_eq_true rfl)
        have cs_2 : w1.cell? ⟨(w.heap.size + 1), 2, none⟩ = some (.bool true) := A1_1.c 2 (of_decide_eq_true rfl)
        have cs_3 : w1.cell? ⟨(w.heap.size + 1), 3, none⟩ = some (.bool pair) := A1_1.c 3 (of_decide_eq_true rfl)
        have cs_4 : w1.cell? ⟨(w.heap.size + 1), 4, none⟩ = some (.bool lit) := A1_1.c 4 (of_decide_eq_true rfl)
        have cs_5 : w1.cell? ⟨(w.heap.size + 1), 5, none⟩ = some (.bool bad) := A1_1.c 5 (of_decide_eq_true rfl)
        have cs_6 : w1.cell? ⟨(w.heap.size + 1), 6, none⟩ = some (.bool pass) := A1_1.c 6 (of_decide_eq_true rfl)
        have cs_7 : w1.cell? ⟨(w.heap.size + 1), 7, none⟩ = some (.int .i64 o) := A1_1.c 7 (of_decide_eq_true rfl)
        have cz_0 : w1.cell? ⟨(w.heap.size + 1 + 1), 0, none⟩ = some (.int .i64 0) := A2_1.c 0 (of_decide_eq_true rfl)
        have gz_0 := A2_1.f 0 (of_decide_eq_true rfl)
        have cz_1 : w1.cell? ⟨(w.heap.size + 1 + 1), 1, none⟩ = some (.int .i64 0) := A2_1.c 1 (of_decide_eq_true rfl)
        have gz_1 := A2_1.f 1 (of_decide_eq_true rfl)
        have cz_2 : w1.cell? ⟨(w.heap.size + 1 + 1), 2, none⟩ = some (.int .i64 0) := A2_1.c 2 (of_decide_eq_true rfl)
        have gz_2 := A2_1.f 2 (of_decide_eq_true rfl)
        have cz_3 : w1.cell? ⟨(w.heap.size + 1 + 1), 3, none⟩ = some (.int .i64 0) := A2_1.c 3 (of_decide_eq_true rfl)
        have gz_3 := A2_1.f 3 (of_decide_eq_true rfl)
        have cz_4 : w1.cell? ⟨(w.heap.size + 1 + 1), 4, none⟩ = some (.int .i64 0) := A2_1.c 4 (of_decide_eq_true rfl)
        have gz_4 := A2_1.f 4 (of_decide_eq_true rfl)
        have cz_5 : w1.cell? ⟨(w.heap.size + 1 + 1), 5, none⟩ = some (.int .i64 0) := A2_1.c 5 (of_decide_eq_true rfl)
        have gz_5 := A2_1.f 5 (of_decide_eq_true rfl)
        have l1 := A2_1.lies
        go_wp2_with fail
        refine (goTo_any 1 m (cntS c false) g i l f _).mono ?_
        rintro e w2 ⟨rfl, b2⟩
        have A0_2 : Arr w.heap.size [.int .i64 m, .int .i64 (cntS c false), .int .i64 g, .int .i64 i, .int .i64 l, .int .i64 f] w2 := (A0_1.put 1 (of_decide_eq_true rfl) (.int .i64 (cntS c false)) [.int .i64 m, .int .i64 (cntS c false), .int .i64 g, .int .i64 i, .int .i64 l, .int .i64 f] rfl).below b2
        have A1_2 : Arr (w.heap.size + 1) [.bool gap, .bool false, .bool true, .bool pair, .bool lit, .bool bad, .bool pass, .int .i64 o] w2 := (A1_1.new w.heap.size 1 (by omega) (.int .i64 (cntS c false))).below b2
        have A2_2 : Arr (w.heap.size + 1 + 1) [.int .i64 0, .int .i64 0, .int .i64 0, .int .i64 0, .int .i64 0, .int .i64 0] w2 := (A2_1.new w.heap.size 1 (by omega) (.int .i64 (cntS c false))).below b2
        have K2 : Below w.heap.size w w2 := bel_then (bel_new K1 w.heap.size 1 (by omega) (.int .i64 (cntS c false))) b2
        clear A0_1 A1_1 A2_1 K1 cp_0 gp_0 cp_1 gp_1 cp_2 gp_2 cp_3 gp_3 cp_4 gp_4 cp_5 gp_5 cs_0 cs_1 cs_2 cs_3 cs_4 cs_5 cs_6 cs_7 cz_0 gz_0 cz_1 gz_1 cz_2 gz_2 cz_3 gz_3 cz_4 gz_4 cz_5 gz_5 l1
        clear b2
        have cp_0 : w2.cell? ⟨w.heap.size, 0, none⟩ = some (.int .i64 m) := A0_2.c 0 (of_decide_eq_true rfl)
        have gp_0 := A0_2.f 0 (of_decide_eq_true rfl)
        have cp_1 : w2.cell? ⟨w.heap.size, 1, none⟩ = some (.int .i64 (cntS c false)) := A0_2.c 1 (of_decide_eq_true rfl)
        have gp_1 := A0_2.f 1 (of_decide_eq_true rfl)
        have cp_2 : w2.cell? ⟨w.heap.size, 2, none⟩ = some (.int .i64 g) := A0_2.c 2 (of_decide_eq_true rfl)
        have gp_2 := A0_2.f 2 (of_decide_eq_true rfl)
        have cp_3 : w2.cell? ⟨w.heap.size, 3, none⟩ = some (.int .i64 i) := A0_2.c 3 (of_decide_eq_true rfl)
        have gp_3 := A0_2.f 3 (of_decide_eq_true rfl)
        have cp_4 : w2.cell? ⟨w.heap.size, 4, none⟩ = some (.int .i64 l) := A0_2.c 4 (of_decide_eq_true rfl)
        have gp_4 := A0_2.f 4 (of_decide_eq_true rfl)
        have cp_5 : w2.cell? ⟨w.heap.size, 5, none⟩ = some (.int .i64 f) := A0_2.c 5 (of_decide_eq_true rfl)
        have gp_5 := A0_2.f 5 (of_decide_eq_true rfl)
        have cs_0 : w2.cell? ⟨(w.heap.size + 1), 0, none⟩ = some (.bool gap) := A1_2.c 0 (of_decide_eq_true rfl)
        have cs_1 : w2.cell? ⟨(w.heap.size + 1), 1, none⟩ = some (.bool false) := A1_2.c 1 (of_decide_eq_true rfl)
        have cs_2 : w2.cell? ⟨(w.heap.size + 1), 2, none⟩ = some (.bool true) := A1_2.c 2 (of_decide_eq_true rfl)
        have cs_3 : w2.cell? ⟨(w.heap.size + 1), 3, none⟩ = some (.bool pair) := A1_2.c 3 (of_decide_eq_true rfl)
        have cs_4 : w2.cell? ⟨(w.heap.size + 1), 4, none⟩ = some (.bool lit) := A1_2.c 4 (of_decide_eq_true rfl)
        have cs_5 : w2.cell? ⟨(w.heap.size + 1), 5, none⟩ = some (.bool bad) := A1_2.c 5 (of_decide_eq_true rfl)
        have cs_6 : w2.cell? ⟨(w.heap.size + 1), 6, none⟩ = some (.bool pass) := A1_2.c 6 (of_decide_eq_true rfl)
        have cs_7 : w2.cell? ⟨(w.heap.size + 1), 7, none⟩ = some (.int .i64 o) := A1_2.c 7 (of_decide_eq_true rfl)
        have cz_0 : w2.cell? ⟨(w.heap.size + 1 + 1), 0, none⟩ = some (.int .i64 0) := A2_2.c 0 (of_decide_eq_true rfl)
        have gz_0 := A2_2.f 0 (of_decide_eq_true rfl)
        have cz_1 : w2.cell? ⟨(w.heap.size + 1 + 1), 1, none⟩ = some (.int .i64 0) := A2_2.c 1 (of_decide_eq_true rfl)
        have gz_1 := A2_2.f 1 (of_decide_eq_true rfl)
        have cz_2 : w2.cell? ⟨(w.heap.size + 1 + 1), 2, none⟩ = some (.int .i64 0) := A2_2.c 2 (of_decide_eq_true rfl)
        have gz_2 := A2_2.f 2 (of_decide_eq_true rfl)
        have cz_3 : w2.cell? ⟨(w.heap.size + 1 + 1), 3, none⟩ = some (.int .i64 0) := A2_2.c 3 (of_decide_eq_true rfl)
        have gz_3 := A2_2.f 3 (of_decide_eq_true rfl)
        have cz_4 : w2.cell? ⟨(w.heap.size + 1 + 1), 4, none⟩ = some (.int .i64 0) := A2_2.c 4 (of_decide_eq_true rfl)
        have gz_4 := A2_2.f 4 (of_decide_eq_true rfl)
        have cz_5 : w2.cell? ⟨(w.heap.size + 1 + 1), 5, none⟩ = some (.int .i64 0) := A2_2.c 5 (of_decide_eq_true rfl)
        have gz_5 := A2_2.f 5 (of_decide_eq_true rfl)
        have l2 := A2_2.lies
        go_wp2_with (with_reducible refine post_stop ?_)
        have A9 := ((((((A2_2.put 0 (of_decide_eq_true rfl) (.int .i64 1) [.int .i64 1, .int .i64 0, .int .i64 0, .int .i64 0, .int .i64 0, .int .i64 0] rfl).put 1 (of_decide_eq_true rfl) (.int .i64 0) [.int .i64 1, .int .i64 0, .int .i64 0, .int .i64 0, .int .i64 0, .int .i64 0] rfl).put 2 (of_decide_eq_true rfl) (.int .i64 0) [.int .i64 1, .int .i64 0, .int .i64 0, .int .i64 0, .int .i64 0, .int .i64 0] rfl).put 3 (of_decide_eq_true rfl) (.int .i64 0) [.int .i64 1, .int .i64 0, .int .i64 0, .int .i64 0, .int .i64 0, .int .i64 0] rfl).put 4 (of_decide_eq_true rfl) (.int .i64 0) [.int .i64 1, .int .i64 0, .int .i64 0, .int .i64 0, .int .i64 0, .int .i64 0] rfl).put 5 (of_decide_eq_true rfl) (.int .i64 f) [.int .i64 1, .int .i64 0, .int .i64 0, .int .i64 0, .int .i64 0, .int .i64 f] rfl)
        have K9 := (bel_new (bel_new (bel_new (bel_new (bel_new (bel_new K2 (w.heap.size + 1 + 1) 0 (by omega) (.int .i64 1)) (w.heap.size + 1 + 1) 1 (by omega) (.int .i64 0)) (w.heap.size + 1 + 1) 2 (by omega) (.int .i64 0)) (w.heap.size + 1 + 1) 3 (by omega) (.int .i64 0)) (w.heap.size + 1 + 1) 4 (by omega) (.int .i64 0)) (w.heap.size + 1 + 1) 5 (by omega) (.int .i64 f))
        clear cp_0 gp_0 cp_1 gp_1 cp_2 gp_2 cp_3 gp_3 cp_4 gp_4 cp_5 gp_5 cs_0 cs_1 cs_2 cs_3 cs_4 cs_5 cs_6 cs_7 cz_0 gz_0 cz_1 gz_1 cz_2 gz_2 cz_3 gz_3 cz_4 gz_4 cz_5 gz_5
        exact ⟨bodyPost_ret (v := .agg #[.int .i64 1, .int .i64 0, .int .i64 0, .int .i64 0, .int .i64 0, .int .i64 f]) (results_arr Try.results14 A9 rfl (by kernel_rfl) (by kernel_rfl)) rfl ⟨by rw [HS.out], K9⟩⟩
      · have HS : Hid (plV (detS ⟨m, c, g, i, l, f⟩ ⟨gap, false, true, pair, lit, bad, pass, o⟩) = .agg #[.int .i64 m, .int .i64 (cntS c false), .int .i64 g, .int .i64 i, .int .i64 l, .int .i64 f]) := by show plV _ = _; first | exact congrArg plV (if_neg t) | rfl | exact congrArg plV (if_neg t) | exact congrArg plV (if_neg u) | exact congrArg plV (if_pos u)
        go_enter Try.func14, Try.ntmps14
        go_wp2_with fail
        refine (counted_any c false _ hc).mono ?_
        rintro e w1 ⟨rfl, b1⟩
        have A0_1 : Arr w.heap.size [.int .i64 m, .int .i64 c, .int .i64 g, .int .i64 i, .int .i64 l, .int .i64 f] w1 := (((Arr_at _ w.heap.size [.int .i64 m, .int .i64 c, .int .i64 g, .int .i64 i, .int .i64 l, .int .i64 f] 23 (by simp)).alloc _).alloc _).below b1
        have A1_1 : Arr (w.heap.size + 1) [.bool gap, .bool false, .bool true, .bool pair, .bool lit, .bool bad, .bool pass, .int .i64 o] w1 := ((Arr_at _ (w.heap.size + 1) [.bool gap, .bool false, .bool true, .bool pair, .bool lit, .bool bad, .bool pass, .int .i64 o] 25 (by simp)).alloc _).below b1
        have A2_1 : Arr (w.heap.size + 1 + 1) [.int .i64 0, .int .i64 0, .int .i64 0, .int .i64 0, .int .i64 0, .int .i64 0] w1 := (Arr_at _ (w.heap.size + 1 + 1) [.int .i64 0, .int .i64 0, .int .i64 0, .int .i64 0, .int .i64 0, .int .i64 0] 23 (by simp)).below b1
        have K1 : Below w.heap.size w w1 := bel_then (bel_al (bel_al (bel_al (Below.refl w.heap.size w) _) _) _) b1
        clear b1
        have cp_0 : w1.cell? ⟨w.heap.size, 0, none⟩ = some (.int .i64 m) := A0_1.c 0 (of_decide_eq_true rfl)
        have gp_0 := A0_1.f 0 (of_decide_eq_true rfl)
        have cp_1 : w1.cell? ⟨w.heap.size, 1, none⟩ = some (.int .i64 c) := A0_1.c 1 (of_decide_eq_true rfl)
        have gp_1 := A0_1.f 1 (of_decide_eq_true rfl)
        have cp_2 : w1.cell? ⟨w.heap.size, 2, none⟩ = some (.int .i64 g) := A0_1.c 2 (of_decide_eq_true rfl)
        have gp_2 := A0_1.f 2 (of_decide_eq_true rfl)
        have cp_3 : w1.cell? ⟨w.heap.size, 3, none⟩ = some (.int .i64 i) := A0_1.c 3 (of_decide_eq_true rfl)
        have gp_3 := A0_1.f 3 (of_decide_eq_true rfl)
        have cp_4 : w1.cell? ⟨w.heap.size, 4, none⟩ = some (.int .i64 l) := A0_1.c 4 (of_decide_eq_true rfl)
        have gp_4 := A0_1.f 4 (of_decide_eq_true rfl)
        have cp_5 : w1.cell? ⟨w.heap.size, 5, none⟩ = some (.int .i64 f) := A0_1.c 5 (of_decide_eq_true rfl)
        have gp_5 := A0_1.f 5 (of_decide_eq_true rfl)
        have cs_0 : w1.cell? ⟨(w.heap.size + 1), 0, none⟩ = some (.bool gap) := A1_1.c 0 (of_decide_eq_true rfl)
        have cs_1 : w1.cell? ⟨(w.heap.size + 1), 1, none⟩ = some (.bool false) := A1_1.c 1 (of_decide_eq_true rfl)
        have cs_2 : w1.cell? ⟨(w.heap.size + 1), 2, none⟩ = some (.bool true) := A1_1.c 2 (of_decide_eq_true rfl)
        have cs_3 : w1.cell? ⟨(w.heap.size + 1), 3, none⟩ = some (.bool pair) := A1_1.c 3 (of_decide_eq_true rfl)
        have cs_4 : w1.cell? ⟨(w.heap.size + 1), 4, none⟩ = some (.bool lit) := A1_1.c 4 (of_decide_eq_true rfl)
        have cs_5 : w1.cell? ⟨(w.heap.size + 1), 5, none⟩ = some (.bool bad) := A1_1.c 5 (of_decide_eq_true rfl)
        have cs_6 : w1.cell? ⟨(w.heap.size + 1), 6, none⟩ = some (.bool pass) := A1_1.c 6 (of_decide_eq_true rfl)
        have cs_7 : w1.cell? ⟨(w.heap.size + 1), 7, none⟩ = some (.int .i64 o) := A1_1.c 7 (of_decide_eq_true rfl)
        have cz_0 : w1.cell? ⟨(w.heap.size + 1 + 1), 0, none⟩ = some (.int .i64 0) := A2_1.c 0 (of_decide_eq_true rfl)
        have gz_0 := A2_1.f 0 (of_decide_eq_true rfl)
        have cz_1 : w1.cell? ⟨(w.heap.size + 1 + 1), 1, none⟩ = some (.int .i64 0) := A2_1.c 1 (of_decide_eq_true rfl)
        have gz_1 := A2_1.f 1 (of_decide_eq_true rfl)
        have cz_2 : w1.cell? ⟨(w.heap.size + 1 + 1), 2, none⟩ = some (.int .i64 0) := A2_1.c 2 (of_decide_eq_true rfl)
        have gz_2 := A2_1.f 2 (of_decide_eq_true rfl)
        have cz_3 : w1.cell? ⟨(w.heap.size + 1 + 1), 3, none⟩ = some (.int .i64 0) := A2_1.c 3 (of_decide_eq_true rfl)
        have gz_3 := A2_1.f 3 (of_decide_eq_true rfl)
        have cz_4 : w1.cell? ⟨(w.heap.size + 1 + 1), 4, none⟩ = some (.int .i64 0) := A2_1.c 4 (of_decide_eq_true rfl)
        have gz_4 := A2_1.f 4 (of_decide_eq_true rfl)
        have cz_5 : w1.cell? ⟨(w.heap.size + 1 + 1), 5, none⟩ = some (.int .i64 0) := A2_1.c 5 (of_decide_eq_true rfl)
        have gz_5 := A2_1.f 5 (of_decide_eq_true rfl)
        have l1 := A2_1.lies
        go_wp2_with (with_reducible refine post_stop ?_)
        have A9 := (((((((A2_1.new w.heap.size 1 (by omega) (.int .i64 (cntS c false))).put 0 (of_decide_eq_true rfl) (.int .i64 m) [.int .i64 m, .int .i64 0, .int .i64 0, .int .i64 0, .int .i64 0, .int .i64 0] rfl).put 1 (of_decide_eq_true rfl) (.int .i64 (cntS c false)) [.int .i64 m, .int .i64 (cntS c false), .int .i64 0, .int .i64 0, .int .i64 0, .int .i64 0] rfl).put 2 (of_decide_eq_true rfl) (.int .i64 g) [.int .i64 m, .int .i64 (cntS c false), .int .i64 g, .int .i64 0, .int .i64 0, .int .i64 0] rfl).put 3 (of_decide_eq_true rfl) (.int .i64 i) [.int .i64 m, .int .i64 (cntS c false), .int .i64 g, .int .i64 i, .int .i64 0, .int .i64 0] rfl).put 4 (of_decide_eq_true rfl) (.int .i64 l) [.int .i64 m, .int .i64 (cntS c false), .int .i64 g, .int .i64 i, .int .i64 l, .int .i64 0] rfl).put 5 (of_decide_eq_true rfl) (.int .i64 f) [.int .i64 m, .int .i64 (cntS c false), .int .i64 g, .int .i64 i, .int .i64 l, .int .i64 f] rfl)
        have K9 := (bel_new (bel_new (bel_new (bel_new (bel_new (bel_new (bel_new K1 w.heap.size 1 (by omega) (.int .i64 (cntS c false))) (w.heap.size + 1 + 1) 0 (by omega) (.int .i64 m)) (w.heap.size + 1 + 1) 1 (by omega) (.int .i64 (cntS c false))) (w.heap.size + 1 + 1) 2 (by omega) (.int .i64 g)) (w.heap.size + 1 + 1) 3 (by omega) (.int .i64 i)) (w.heap.size + 1 + 1) 4 (by omega) (.int .i64 l)) (w.heap.size + 1 + 1) 5 (by omega) (.int .i64 f))
        clear cp_0 gp_0 cp_1 gp_1 cp_2 gp_2 cp_3 gp_3 cp_4 gp_4 cp_5 gp_5 cs_0 cs_1 cs_2 cs_3 cs_4 cs_5 cs_6 cs_7 cz_0 gz_0 cz_1 gz_1 cz_2 gz_2 cz_3 gz_3 cz_4 gz_4 cz_5 gz_5
        exact ⟨bodyPost_ret (v := .agg #[.int .i64 m, .int .i64 (cntS c false), .int .i64 g, .int .i64 i, .int .i64 l, .int .i64 f]) (results_arr Try.results14 A9 rfl (by kernel_rfl) (by kernel_rfl)) rfl ⟨by rw [HS.out], K9⟩⟩
  · cases slow
    · by_cases t : 3 ≤ cntS c false
      · have HS : Hid (plV (detS ⟨m, c, g, i, l, f⟩ ⟨gap, true, false, pair, lit, bad, pass, o⟩) = .agg #[.int .i64 1, .int .i64 0, .int .i64 0, .int .i64 0, .int .i64 0, .int .i64 f]) := by show plV _ = _; first | exact congrArg plV (if_pos t) | rfl | exact congrArg plV (if_neg t) | exact congrArg plV (if_neg u) | exact congrArg plV (if_pos u)
        go_enter Try.func14, Try.ntmps14
        go_wp2_with fail
        refine (counted_any c false _ hc).mono ?_
        rintro e w1 ⟨rfl, b1⟩
        have A0_1 : Arr w.heap.size [.int .i64 m, .int .i64 c, .int .i64 g, .int .i64 i, .int .i64 l, .int .i64 f] w1 := (((Arr_at _ w.heap.size [.int .i64 m, .int .i64 c, .int .i64 g, .int .i64 i, .int .i64 l, .int .i64 f] 23 (by simp)).alloc _).alloc _).below b1
        have A1_1 : Arr (w.heap.size + 1) [.bool gap, .bool true, .bool false, .bool pair, .bool lit, .bool bad, .bool pass, .int .i64 o] w1 := ((Arr_at _ (w.heap.size + 1) [.bool gap, .bool true, .bool false, .bool pair, .bool lit, .bool bad, .bool pass, .int .i64 o] 25 (by simp)).alloc _).below b1
        have A2_1 : Arr (w.heap.size + 1 + 1) [.int .i64 0, .int .i64 0, .int .i64 0, .int .i64 0, .int .i64 0, .int .i64 0] w1 := (Arr_at _ (w.heap.size + 1 + 1) [.int .i64 0, .int .i64 0, .int .i64 0, .int .i64 0, .int .i64 0, .int .i64 0] 23 (by simp)).below b1
        have K1 : Below w.heap.size w w1 := bel_then (bel_al (bel_al (bel_al (Below.refl w.heap.size w) _) _) _) b1
        clear b1
        have cp_0 : w1.cell? ⟨w.heap.size, 0, none⟩ = some (.int .i64 m) := A0_1.c 0 (of_decide_eq_true rfl)
        have gp_0 := A0_1.f 0 (of_decide_eq_true rfl)
        have cp_1 : w1.cell? ⟨w.heap.size, 1, none⟩ = some (.int .i64 c) := A0_1.c 1 (of_decide_eq_true rfl)
        have gp_1 := A0_1.f 1 (of_decide_eq_true rfl)
        have cp_2 : w1.cell? ⟨w.heap.size, 2, none⟩ = some (.int .i64 g) := A0_1.c 2 (of_decide_eq_true rfl)
        have gp_2 := A0_1.f 2 (of_decide_eq_true rfl)
        have cp_3 : w1.cell? ⟨w.heap.size, 3, none⟩ = some (.int .i64 i) := A0_1.c 3 (of_decide_eq_true rfl)
        have gp_3 := A0_1.f 3 (of_decide_eq_true rfl)
        have cp_4 : w1.cell? ⟨w.heap.size, 4, none⟩ = some (.int .i64 l) := A0_1.c 4 (of_decide_eq_true rfl)
        have gp_4 := A0_1.f 4 (of_decide_eq_true rfl)
        have cp_5 : w1.cell? ⟨w.heap.size, 5, none⟩ = some (.int .i64 f) := A0_1.c 5 (of_decide_eq_true rfl)
        have gp_5 := A0_1.f 5 (of_decide_eq_true rfl)
        have cs_0 : w1.cell? ⟨(w.heap.size + 1), 0, none⟩ = some (.bool gap) := A1_1.c 0 (of_decide_eq_true rfl)
        have cs_1 : w1.cell? ⟨(w.heap.size + 1), 1, none⟩ = some (.bool true) := A1_1.c 1 (of_decide_eq_true rfl)
        have cs_2 : w1.cell? ⟨(w.heap.size + 1), 2, none⟩ = some (.bool false) := A1_1.c 2 (of_decide_eq_true rfl)
        have cs_3 : w1.cell? ⟨(w.heap.size + 1), 3, none⟩ = some (.bool pair) := A1_1.c 3 (of_decide_eq_true rfl)
        have cs_4 : w1.cell? ⟨(w.heap.size + 1), 4, none⟩ = some (.bool lit) := A1_1.c 4 (of_decide_eq_true rfl)
        have cs_5 : w1.cell? ⟨(w.heap.size + 1), 5, none⟩ = some (.bool bad) := A1_1.c 5 (of_decide_eq_true rfl)
        have cs_6 : w1.cell? ⟨(w.heap.size + 1), 6, none⟩ = some (.bool pass) := A1_1.c 6 (of_decide_eq_true rfl)
        have cs_7 : w1.cell? ⟨(w.heap.size + 1), 7, none⟩ = some (.int .i64 o) := A1_1.c 7 (of_decide_eq_true rfl)
        have cz_0 : w1.cell? ⟨(w.heap.size + 1 + 1), 0, none⟩ = some (.int .i64 0) := A2_1.c 0 (of_decide_eq_true rfl)
        have gz_0 := A2_1.f 0 (of_decide_eq_true rfl)
        have cz_1 : w1.cell? ⟨(w.heap.size + 1 + 1), 1, none⟩ = some (.int .i64 0) := A2_1.c 1 (of_decide_eq_true rfl)
        have gz_1 := A2_1.f 1 (of_decide_eq_true rfl)
        have cz_2 : w1.cell? ⟨(w.heap.size + 1 + 1), 2, none⟩ = some (.int .i64 0) := A2_1.c 2 (of_decide_eq_true rfl)
        have gz_2 := A2_1.f 2 (of_decide_eq_true rfl)
        have cz_3 : w1.cell? ⟨(w.heap.size + 1 + 1), 3, none⟩ = some (.int .i64 0) := A2_1.c 3 (of_decide_eq_true rfl)
        have gz_3 := A2_1.f 3 (of_decide_eq_true rfl)
        have cz_4 : w1.cell? ⟨(w.heap.size + 1 + 1), 4, none⟩ = some (.int .i64 0) := A2_1.c 4 (of_decide_eq_true rfl)
        have gz_4 := A2_1.f 4 (of_decide_eq_true rfl)
        have cz_5 : w1.cell? ⟨(w.heap.size + 1 + 1), 5, none⟩ = some (.int .i64 0) := A2_1.c 5 (of_decide_eq_true rfl)
        have gz_5 := A2_1.f 5 (of_decide_eq_true rfl)
        have l1 := A2_1.lies
        go_wp2_with fail
        refine (goTo_any 1 m (cntS c false) g i l f _).mono ?_
        rintro e w2 ⟨rfl, b2⟩
        have A0_2 : Arr w.heap.size [.int .i64 m, .int .i64 (cntS c false), .int .i64 g, .int .i64 i, .int .i64 l, .int .i64 f] w2 := (A0_1.put 1 (of_decide_eq_true rfl) (.int .i64 (cntS c false)) [.int .i64 m, .int .i64 (cntS c false), .int .i64 g, .int .i64 i, .int .i64 l, .int .i64 f] rfl).below b2
        have A1_2 : Arr (w.heap.size + 1) [.bool gap, .bool true, .bool false, .bool pair, .bool lit, .bool bad, .bool pass, .int .i64 o] w2 := (A1_1.new w.heap.size 1 (by omega) (.int .i64 (cntS c false))).below b2
        have A2_2 : Arr (w.heap.size + 1 + 1) [.int .i64 0, .int .i64 0, .int .i64 0, .int .i64 0, .int .i64 0, .int .i64 0] w2 := (A2_1.new w.heap.size 1 (by omega) (.int .i64 (cntS c false))).below b2
        have K2 : Below w.heap.size w w2 := bel_then (bel_new K1 w.heap.size 1 (by omega) (.int .i64 (cntS c false))) b2
        clear A0_1 A1_1 A2_1 K1 cp_0 gp_0 cp_1 gp_1 cp_2 gp_2 cp_3 gp_3 cp_4 gp_4 cp_5 gp_5 cs_0 cs_1 cs_2 cs_3 cs_4 cs_5 cs_6 cs_7 cz_0 gz_0 cz_1 gz_1 cz_2 gz_2 cz_3 gz_3 cz_4 gz_4 cz_5 gz_5 l1
        clear b2
        have cp_0 : w2.cell? ⟨w.heap.size, 0, none⟩ = some (.int .i64 m) := A0_2.c 0 (of_decide_eq_true rfl)
        have gp_0 := A0_2.f 0 (of_decide_eq_true rfl)
        have cp_1 : w2.cell? ⟨w.heap.size, 1, none⟩ = some (.int .i64 (cntS c false)) := A0_2.c 1 (of_decide_eq_true rfl)
        have gp_1 := A0_2.f 1 (of_decide_eq_true rfl)
        have cp_2 : w2.cell? ⟨w.heap.size, 2, none⟩ = some (.int .i64 g) := A0_2.c 2 (of_decide_eq_true rfl)
        have gp_2 := A0_2.f 2 (of_decide_eq_true rfl)
        have cp_3 : w2.cell? ⟨w.heap.size, 3, none⟩ = some (.int .i64 i) := A0_2.c 3 (of_decide_eq_true rfl)
        have gp_3 := A0_2.f 3 (of_decide_eq_true rfl)
        have cp_4 : w2.cell? ⟨w.heap.size, 4, none⟩ = some (.int .i64 l) := A0_2.c 4 (of_decide_eq_true rfl)
        have gp_4 := A0_2.f 4 (of_decide_eq_true rfl)
        have cp_5 : w2.cell? ⟨w.heap.size, 5, none⟩ = some (.int .i64 f) := A0_2.c 5 (of_decide_eq_true rfl)
        have gp_5 := A0_2.f 5 (of_decide_eq_true rfl)
        have cs_0 : w2.cell? ⟨(w.heap.size + 1), 0, none⟩ = some (.bool gap) := A1_2.c 0 (of_decide_eq_true rfl)
        have cs_1 : w2.cell? ⟨(w.heap.size + 1), 1, none⟩ = some (.bool true) := A1_2.c 1 (of_decide_eq_true rfl)
        have cs_2 : w2.cell? ⟨(w.heap.size + 1), 2, none⟩ = some (.bool false) := A1_2.c 2 (of_decide_eq_true rfl)
        have cs_3 : w2.cell? ⟨(w.heap.size + 1), 3, none⟩ = some (.bool pair) := A1_2.c 3 (of_decide_eq_true rfl)
        have cs_4 : w2.cell? ⟨(w.heap.size + 1), 4, none⟩ = some (.bool lit) := A1_2.c 4 (of_decide_eq_true rfl)
        have cs_5 : w2.cell? ⟨(w.heap.size + 1), 5, none⟩ = some (.bool bad) := A1_2.c 5 (of_decide_eq_true rfl)
        have cs_6 : w2.cell? ⟨(w.heap.size + 1), 6, none⟩ = some (.bool pass) := A1_2.c 6 (of_decide_eq_true rfl)
        have cs_7 : w2.cell? ⟨(w.heap.size + 1), 7, none⟩ = some (.int .i64 o) := A1_2.c 7 (of_decide_eq_true rfl)
        have cz_0 : w2.cell? ⟨(w.heap.size + 1 + 1), 0, none⟩ = some (.int .i64 0) := A2_2.c 0 (of_decide_eq_true rfl)
        have gz_0 := A2_2.f 0 (of_decide_eq_true rfl)
        have cz_1 : w2.cell? ⟨(w.heap.size + 1 + 1), 1, none⟩ = some (.int .i64 0) := A2_2.c 1 (of_decide_eq_true rfl)
        have gz_1 := A2_2.f 1 (of_decide_eq_true rfl)
        have cz_2 : w2.cell? ⟨(w.heap.size + 1 + 1), 2, none⟩ = some (.int .i64 0) := A2_2.c 2 (of_decide_eq_true rfl)
        have gz_2 := A2_2.f 2 (of_decide_eq_true rfl)
        have cz_3 : w2.cell? ⟨(w.heap.size + 1 + 1), 3, none⟩ = some (.int .i64 0) := A2_2.c 3 (of_decide_eq_true rfl)
        have gz_3 := A2_2.f 3 (of_decide_eq_true rfl)
        have cz_4 : w2.cell? ⟨(w.heap.size + 1 + 1), 4, none⟩ = some (.int .i64 0) := A2_2.c 4 (of_decide_eq_true rfl)
        have gz_4 := A2_2.f 4 (of_decide_eq_true rfl)
        have cz_5 : w2.cell? ⟨(w.heap.size + 1 + 1), 5, none⟩ = some (.int .i64 0) := A2_2.c 5 (of_decide_eq_true rfl)
        have gz_5 := A2_2.f 5 (of_decide_eq_true rfl)
        have l2 := A2_2.lies
        go_wp2_with (with_reducible refine post_stop ?_)
        have A9 := ((((((A2_2.put 0 (of_decide_eq_true rfl) (.int .i64 1) [.int .i64 1, .int .i64 0, .int .i64 0, .int .i64 0, .int .i64 0, .int .i64 0] rfl).put 1 (of_decide_eq_true rfl) (.int .i64 0) [.int .i64 1, .int .i64 0, .int .i64 0, .int .i64 0, .int .i64 0, .int .i64 0] rfl).put 2 (of_decide_eq_true rfl) (.int .i64 0) [.int .i64 1, .int .i64 0, .int .i64 0, .int .i64 0, .int .i64 0, .int .i64 0] rfl).put 3 (of_decide_eq_true rfl) (.int .i64 0) [.int .i64 1, .int .i64 0, .int .i64 0, .int .i64 0, .int .i64 0, .int .i64 0] rfl).put 4 (of_decide_eq_true rfl) (.int .i64 0) [.int .i64 1, .int .i64 0, .int .i64 0, .int .i64 0, .int .i64 0, .int .i64 0] rfl).put 5 (of_decide_eq_true rfl) (.int .i64 f) [.int .i64 1, .int .i64 0, .int .i64 0, .int .i64 0, .int .i64 0, .int .i64 f] rfl)
        have K9 := (bel_new (bel_new (bel_new (bel_new (bel_new (bel_new K2 (w.heap.size + 1 + 1) 0 (by omega) (.int .i64 1)) (w.heap.size + 1 + 1) 1 (by omega) (.int .i64 0)) (w.heap.size + 1 + 1) 2 (by omega) (.int .i64 0)) (w.heap.size + 1 + 1) 3 (by omega) (.int .i64 0)) (w.heap.size + 1 + 1) 4 (by omega) (.int .i64 0)) (w.heap.size + 1 + 1) 5 (by omega) (.int .i64 f))
        clear cp_0 gp_0 cp_1 gp_1 cp_2 gp_2 cp_3 gp_3 cp_4 gp_4 cp_5 gp_5 cs_0 cs_1 cs_2 cs_3 cs_4 cs_5 cs_6 cs_7 cz_0 gz_0 cz_1 gz_1 cz_2 gz_2 cz_3 gz_3 cz_4 gz_4 cz_5 gz_5
        exact ⟨bodyPost_ret (v := .agg #[.int .i64 1, .int .i64 0, .int .i64 0, .int .i64 0, .int .i64 0, .int .i64 f]) (results_arr Try.results14 A9 rfl (by kernel_rfl) (by kernel_rfl)) rfl ⟨by rw [HS.out], K9⟩⟩
      · have HS : Hid (plV (detS ⟨m, c, g, i, l, f⟩ ⟨gap, true, false, pair, lit, bad, pass, o⟩) = .agg #[.int .i64 m, .int .i64 (cntS c false), .int .i64 g, .int .i64 i, .int .i64 l, .int .i64 f]) := by show plV _ = _; first | exact congrArg plV (if_neg t) | rfl | exact congrArg plV (if_neg t) | exact congrArg plV (if_neg u) | exact congrArg plV (if_pos u)
        go_enter Try.func14, Try.ntmps14
        go_wp2_with fail
        refine (counted_any c false _ hc).mono ?_
        rintro e w1 ⟨rfl, b1⟩
        have A0_1 : Arr w.heap.size [.int .i64 m, .int .i64 c, .int .i64 g, .int .i64 i, .int .i64 l, .int .i64 f] w1 := (((Arr_at _ w.heap.size [.int .i64 m, .int .i64 c, .int .i64 g, .int .i64 i, .int .i64 l, .int .i64 f] 23 (by simp)).alloc _).alloc _).below b1
        have A1_1 : Arr (w.heap.size + 1) [.bool gap, .bool true, .bool false, .bool pair, .bool lit, .bool bad, .bool pass, .int .i64 o] w1 := ((Arr_at _ (w.heap.size + 1) [.bool gap, .bool true, .bool false, .bool pair, .bool lit, .bool bad, .bool pass, .int .i64 o] 25 (by simp)).alloc _).below b1
        have A2_1 : Arr (w.heap.size + 1 + 1) [.int .i64 0, .int .i64 0, .int .i64 0, .int .i64 0, .int .i64 0, .int .i64 0] w1 := (Arr_at _ (w.heap.size + 1 + 1) [.int .i64 0, .int .i64 0, .int .i64 0, .int .i64 0, .int .i64 0, .int .i64 0] 23 (by simp)).below b1
        have K1 : Below w.heap.size w w1 := bel_then (bel_al (bel_al (bel_al (Below.refl w.heap.size w) _) _) _) b1
        clear b1
        have cp_0 : w1.cell? ⟨w.heap.size, 0, none⟩ = some (.int .i64 m) := A0_1.c 0 (of_decide_eq_true rfl)
        have gp_0 := A0_1.f 0 (of_decide_eq_true rfl)
        have cp_1 : w1.cell? ⟨w.heap.size, 1, none⟩ = some (.int .i64 c) := A0_1.c 1 (of_decide_eq_true rfl)
        have gp_1 := A0_1.f 1 (of_decide_eq_true rfl)
        have cp_2 : w1.cell? ⟨w.heap.size, 2, none⟩ = some (.int .i64 g) := A0_1.c 2 (of_decide_eq_true rfl)
        have gp_2 := A0_1.f 2 (of_decide_eq_true rfl)
        have cp_3 : w1.cell? ⟨w.heap.size, 3, none⟩ = some (.int .i64 i) := A0_1.c 3 (of_decide_eq_true rfl)
        have gp_3 := A0_1.f 3 (of_decide_eq_true rfl)
        have cp_4 : w1.cell? ⟨w.heap.size, 4, none⟩ = some (.int .i64 l) := A0_1.c 4 (of_decide_eq_true rfl)
        have gp_4 := A0_1.f 4 (of_decide_eq_true rfl)
        have cp_5 : w1.cell? ⟨w.heap.size, 5, none⟩ = some (.int .i64 f) := A0_1.c 5 (of_decide_eq_true rfl)
        have gp_5 := A0_1.f 5 (of_decide_eq_true rfl)
        have cs_0 : w1.cell? ⟨(w.heap.size + 1), 0, none⟩ = some (.bool gap) := A1_1.c 0 (of_decide_eq_true rfl)
        have cs_1 : w1.cell? ⟨(w.heap.size + 1), 1, none⟩ = some (.bool true) := A1_1.c 1 (of_decide_eq_true rfl)
        have cs_2 : w1.cell? ⟨(w.heap.size + 1), 2, none⟩ = some (.bool false) := A1_1.c 2 (of_decide_eq_true rfl)
        have cs_3 : w1.cell? ⟨(w.heap.size + 1), 3, none⟩ = some (.bool pair) := A1_1.c 3 (of_decide_eq_true rfl)
        have cs_4 : w1.cell? ⟨(w.heap.size + 1), 4, none⟩ = some (.bool lit) := A1_1.c 4 (of_decide_eq_true rfl)
        have cs_5 : w1.cell? ⟨(w.heap.size + 1), 5, none⟩ = some (.bool bad) := A1_1.c 5 (of_decide_eq_true rfl)
        have cs_6 : w1.cell? ⟨(w.heap.size + 1), 6, none⟩ = some (.bool pass) := A1_1.c 6 (of_decide_eq_true rfl)
        have cs_7 : w1.cell? ⟨(w.heap.size + 1), 7, none⟩ = some (.int .i64 o) := A1_1.c 7 (of_decide_eq_true rfl)
        have cz_0 : w1.cell? ⟨(w.heap.size + 1 + 1), 0, none⟩ = some (.int .i64 0) := A2_1.c 0 (of_decide_eq_true rfl)
        have gz_0 := A2_1.f 0 (of_decide_eq_true rfl)
        have cz_1 : w1.cell? ⟨(w.heap.size + 1 + 1), 1, none⟩ = some (.int .i64 0) := A2_1.c 1 (of_decide_eq_true rfl)
        have gz_1 := A2_1.f 1 (of_decide_eq_true rfl)
        have cz_2 : w1.cell? ⟨(w.heap.size + 1 + 1), 2, none⟩ = some (.int .i64 0) := A2_1.c 2 (of_decide_eq_true rfl)
        have gz_2 := A2_1.f 2 (of_decide_eq_true rfl)
        have cz_3 : w1.cell? ⟨(w.heap.size + 1 + 1), 3, none⟩ = some (.int .i64 0) := A2_1.c 3 (of_decide_eq_true rfl)
        have gz_3 := A2_1.f 3 (of_decide_eq_true rfl)
        have cz_4 : w1.cell? ⟨(w.heap.size + 1 + 1), 4, none⟩ = some (.int .i64 0) := A2_1.c 4 (of_decide_eq_true rfl)
        have gz_4 := A2_1.f 4 (of_decide_eq_true rfl)
        have cz_5 : w1.cell? ⟨(w.heap.size + 1 + 1), 5, none⟩ = some (.int .i64 0) := A2_1.c 5 (of_decide_eq_true rfl)
        have gz_5 := A2_1.f 5 (of_decide_eq_true rfl)
        have l1 := A2_1.lies
        go_wp2_with (with_reducible refine post_stop ?_)
        have A9 := (((((((A2_1.new w.heap.size 1 (by omega) (.int .i64 (cntS c false))).put 0 (of_decide_eq_true rfl) (.int .i64 m) [.int .i64 m, .int .i64 0, .int .i64 0, .int .i64 0, .int .i64 0, .int .i64 0] rfl).put 1 (of_decide_eq_true rfl) (.int .i64 (cntS c false)) [.int .i64 m, .int .i64 (cntS c false), .int .i64 0, .int .i64 0, .int .i64 0, .int .i64 0] rfl).put 2 (of_decide_eq_true rfl) (.int .i64 g) [.int .i64 m, .int .i64 (cntS c false), .int .i64 g, .int .i64 0, .int .i64 0, .int .i64 0] rfl).put 3 (of_decide_eq_true rfl) (.int .i64 i) [.int .i64 m, .int .i64 (cntS c false), .int .i64 g, .int .i64 i, .int .i64 0, .int .i64 0] rfl).put 4 (of_decide_eq_true rfl) (.int .i64 l) [.int .i64 m, .int .i64 (cntS c false), .int .i64 g, .int .i64 i, .int .i64 l, .int .i64 0] rfl).put 5 (of_decide_eq_true rfl) (.int .i64 f) [.int .i64 m, .int .i64 (cntS c false), .int .i64 g, .int .i64 i, .int .i64 l, .int .i64 f] rfl)
        have K9 := (bel_new (bel_new (bel_new (bel_new (bel_new (bel_new (bel_new K1 w.heap.size 1 (by omega) (.int .i64 (cntS c false))) (w.heap.size + 1 + 1) 0 (by omega) (.int .i64 m)) (w.heap.size + 1 + 1) 1 (by omega) (.int .i64 (cntS c false))) (w.heap.size + 1 + 1) 2 (by omega) (.int .i64 g)) (w.heap.size + 1 + 1) 3 (by omega) (.int .i64 i)) (w.heap.size + 1 + 1) 4 (by omega) (.int .i64 l)) (w.heap.size + 1 + 1) 5 (by omega) (.int .i64 f))
        clear cp_0 gp_0 cp_1 gp_1 cp_2 gp_2 cp_3 gp_3 cp_4 gp_4 cp_5 gp_5 cs_0 cs_1 cs_2 cs_3 cs_4 cs_5 cs_6 cs_7 cz_0 gz_0 cz_1 gz_1 cz_2 gz_2 cz_3 gz_3 cz_4 gz_4 cz_5 gz_5
        exact ⟨bodyPost_ret (v := .agg #[.int .i64 m, .int .i64 (cntS c false), .int .i64 g, .int .i64 i, .int .i64 l, .int .i64 f]) (results_arr Try.results14 A9 rfl (by kernel_rfl) (by kernel_rfl)) rfl ⟨by rw [HS.out], K9⟩⟩
    · by_cases t : 3 ≤ cntS c true
      · have HS : Hid (plV (detS ⟨m, c, g, i, l, f⟩ ⟨gap, true, true, pair, lit, bad, pass, o⟩) = .agg #[.int .i64 1, .int .i64 0, .int .i64 0, .int .i64 0, .int .i64 0, .int .i64 f]) := by show plV _ = _; first | exact congrArg plV (if_pos t) | rfl | exact congrArg plV (if_neg t) | exact congrArg plV (if_neg u) | exact congrArg plV (if_pos u)
        go_enter Try.func14, Try.ntmps14
        go_wp2_with fail
        refine (counted_any c true _ hc).mono ?_
        rintro e w1 ⟨rfl, b1⟩
        have A0_1 : Arr w.heap.size [.int .i64 m, .int .i64 c, .int .i64 g, .int .i64 i, .int .i64 l, .int .i64 f] w1 := (((Arr_at _ w.heap.size [.int .i64 m, .int .i64 c, .int .i64 g, .int .i64 i, .int .i64 l, .int .i64 f] 23 (by simp)).alloc _).alloc _).below b1
        have A1_1 : Arr (w.heap.size + 1) [.bool gap, .bool true, .bool true, .bool pair, .bool lit, .bool bad, .bool pass, .int .i64 o] w1 := ((Arr_at _ (w.heap.size + 1) [.bool gap, .bool true, .bool true, .bool pair, .bool lit, .bool bad, .bool pass, .int .i64 o] 25 (by simp)).alloc _).below b1
        have A2_1 : Arr (w.heap.size + 1 + 1) [.int .i64 0, .int .i64 0, .int .i64 0, .int .i64 0, .int .i64 0, .int .i64 0] w1 := (Arr_at _ (w.heap.size + 1 + 1) [.int .i64 0, .int .i64 0, .int .i64 0, .int .i64 0, .int .i64 0, .int .i64 0] 23 (by simp)).below b1
        have K1 : Below w.heap.size w w1 := bel_then (bel_al (bel_al (bel_al (Below.refl w.heap.size w) _) _) _) b1
        clear b1
        have cp_0 : w1.cell? ⟨w.heap.size, 0, none⟩ = some (.int .i64 m) := A0_1.c 0 (of_decide_eq_true rfl)
        have gp_0 := A0_1.f 0 (of_decide_eq_true rfl)
        have cp_1 : w1.cell? ⟨w.heap.size, 1, none⟩ = some (.int .i64 c) := A0_1.c 1 (of_decide_eq_true rfl)
        have gp_1 := A0_1.f 1 (of_decide_eq_true rfl)
        have cp_2 : w1.cell? ⟨w.heap.size, 2, none⟩ = some (.int .i64 g) := A0_1.c 2 (of_decide_eq_true rfl)
        have gp_2 := A0_1.f 2 (of_decide_eq_true rfl)
        have cp_3 : w1.cell? ⟨w.heap.size, 3, none⟩ = some (.int .i64 i) := A0_1.c 3 (of_decide_eq_true rfl)
        have gp_3 := A0_1.f 3 (of_decide_eq_true rfl)
        have cp_4 : w1.cell? ⟨w.heap.size, 4, none⟩ = some (.int .i64 l) := A0_1.c 4 (of_decide_eq_true rfl)
        have gp_4 := A0_1.f 4 (of_decide_eq_true rfl)
        have cp_5 : w1.cell? ⟨w.heap.size, 5, none⟩ = some (.int .i64 f) := A0_1.c 5 (of_decide_eq_true rfl)
        have gp_5 := A0_1.f 5 (of_decide_eq_true rfl)
        have cs_0 : w1.cell? ⟨(w.heap.size + 1), 0, none⟩ = some (.bool gap) := A1_1.c 0 (of_decide_eq_true rfl)
        have cs_1 : w1.cell? ⟨(w.heap.size + 1), 1, none⟩ = some (.bool true) := A1_1.c 1 (of_decide_eq_true rfl)
        have cs_2 : w1.cell? ⟨(w.heap.size + 1), 2, none⟩ = some (.bool true) := A1_1.c 2 (of_decide_eq_true rfl)
        have cs_3 : w1.cell? ⟨(w.heap.size + 1), 3, none⟩ = some (.bool pair) := A1_1.c 3 (of_decide_eq_true rfl)
        have cs_4 : w1.cell? ⟨(w.heap.size + 1), 4, none⟩ = some (.bool lit) := A1_1.c 4 (of_decide_eq_true rfl)
        have cs_5 : w1.cell? ⟨(w.heap.size + 1), 5, none⟩ = some (.bool bad) := A1_1.c 5 (of_decide_eq_true rfl)
        have cs_6 : w1.cell? ⟨(w.heap.size + 1), 6, none⟩ = some (.bool pass) := A1_1.c 6 (of_decide_eq_true rfl)
        have cs_7 : w1.cell? ⟨(w.heap.size + 1), 7, none⟩ = some (.int .i64 o) := A1_1.c 7 (of_decide_eq_true rfl)
        have cz_0 : w1.cell? ⟨(w.heap.size + 1 + 1), 0, none⟩ = some (.int .i64 0) := A2_1.c 0 (of_decide_eq_true rfl)
        have gz_0 := A2_1.f 0 (of_decide_eq_true rfl)
        have cz_1 : w1.cell? ⟨(w.heap.size + 1 + 1), 1, none⟩ = some (.int .i64 0) := A2_1.c 1 (of_decide_eq_true rfl)
        have gz_1 := A2_1.f 1 (of_decide_eq_true rfl)
        have cz_2 : w1.cell? ⟨(w.heap.size + 1 + 1), 2, none⟩ = some (.int .i64 0) := A2_1.c 2 (of_decide_eq_true rfl)
        have gz_2 := A2_1.f 2 (of_decide_eq_true rfl)
        have cz_3 : w1.cell? ⟨(w.heap.size + 1 + 1), 3, none⟩ = some (.int .i64 0) := A2_1.c 3 (of_decide_eq_true rfl)
        have gz_3 := A2_1.f 3 (of_decide_eq_true rfl)
        have cz_4 : w1.cell? ⟨(w.heap.size + 1 + 1), 4, none⟩ = some (.int .i64 0) := A2_1.c 4 (of_decide_eq_true rfl)
        have gz_4 := A2_1.f 4 (of_decide_eq_true rfl)
        have cz_5 : w1.cell? ⟨(w.heap.size + 1 + 1), 5, none⟩ = some (.int .i64 0) := A2_1.c 5 (of_decide_eq_true rfl)
        have gz_5 := A2_1.f 5 (of_decide_eq_true rfl)
        have l1 := A2_1.lies
        go_wp2_with fail
        refine (goTo_any 1 m (cntS c true) g i l f _).mono ?_
        rintro e w2 ⟨rfl, b2⟩
        have A0_2 : Arr w.heap.size [.int .i64 m, .int .i64 (cntS c true), .int .i64 g, .int .i64 i, .int .i64 l, .int .i64 f] w2 := (A0_1.put 1 (of_decide_eq_true rfl) (.int .i64 (cntS c true)) [.int .i64 m, .int .i64 (cntS c true), .int .i64 g, .int .i64 i, .int .i64 l, .int .i64 f] rfl).below b2
        have A1_2 : Arr (w.heap.size + 1) [.bool gap, .bool true, .bool true, .bool pair, .bool lit, .bool bad, .bool pass, .int .i64 o] w2 := (A1_1.new w.heap.size 1 (by omega) (.int .i64 (cntS c true))).below b2
        have A2_2 : Arr (w.heap.size + 1 + 1) [.int .i64 0, .int .i64 0, .int .i64 0, .int .i64 0, .int .i64 0, .int .i64 0] w2 := (A2_1.new w.heap.size 1 (by omega) (.int .i64 (cntS c true))).below b2
        have K2 : Below w.heap.size w w2 := bel_then (bel_new K1 w.heap.size 1 (by omega) (.int .i64 (cntS c true))) b2
        clear A0_1 A1_1 A2_1 K1 cp_0 gp_0 cp_1 gp_1 cp_2 gp_2 cp_3 gp_3 cp_4 gp_4 cp_5 gp_5 cs_0 cs_1 cs_2 cs_3 cs_4 cs_5 cs_6 cs_7 cz_0 gz_0 cz_1 gz_1 cz_2 gz_2 cz_3 gz_3 cz_4 gz_4 cz_5 gz_5 l1
        clear b2
        have cp_0 : w2.cell? ⟨w.heap.size, 0, none⟩ = some (.int .i64 m) := A0_2.c 0 (of_decide_eq_true rfl)
        have gp_0 := A0_2.f 0 (of_decide_eq_true rfl)
        have cp_1 : w2.cell? ⟨w.heap.size, 1, none⟩ = some (.int .i64 (cntS c true)) := A0_2.c 1 (of_decide_eq_true rfl)
        have gp_1 := A0_2.f 1 (of_decide_eq_true rfl)
        have cp_2 : w2.cell? ⟨w.heap.size, 2, none⟩ = some (.int .i64 g) := A0_2.c 2 (of_decide_eq_true rfl)
        have gp_2 := A0_2.f 2 (of_decide_eq_true rfl)
        have cp_3 : w2.cell? ⟨w.heap.size, 3, none⟩ = some (.int .i64 i) := A0_2.c 3 (of_decide_eq_true rfl)
        have gp_3 := A0_2.f 3 (of_decide_eq_true rfl)
        have cp_4 : w2.cell? ⟨w.heap.size, 4, none⟩ = some (.int .i64 l) := A0_2.c 4 (of_decide_eq_true rfl)
        have gp_4 := A0_2.f 4 (of_decide_eq_true rfl)
        have cp_5 : w2.cell? ⟨w.heap.size, 5, none⟩ = some (.int .i64 f) := A0_2.c 5 (of_decide_eq_true rfl)
        have gp_5 := A0_2.f 5 (of_decide_eq_true rfl)
        have cs_0 : w2.cell? ⟨(w.heap.size + 1), 0, none⟩ = some (.bool gap) := A1_2.c 0 (of_decide_eq_true rfl)
        have cs_1 : w2.cell? ⟨(w.heap.size + 1), 1, none⟩ = some (.bool true) := A1_2.c 1 (of_decide_eq_true rfl)
        have cs_2 : w2.cell? ⟨(w.heap.size + 1), 2, none⟩ = some (.bool true) := A1_2.c 2 (of_decide_eq_true rfl)
        have cs_3 : w2.cell? ⟨(w.heap.size + 1), 3, none⟩ = some (.bool pair) := A1_2.c 3 (of_decide_eq_true rfl)
        have cs_4 : w2.cell? ⟨(w.heap.size + 1), 4, none⟩ = some (.bool lit) := A1_2.c 4 (of_decide_eq_true rfl)
        have cs_5 : w2.cell? ⟨(w.heap.size + 1), 5, none⟩ = some (.bool bad) := A1_2.c 5 (of_decide_eq_true rfl)
        have cs_6 : w2.cell? ⟨(w.heap.size + 1), 6, none⟩ = some (.bool pass) := A1_2.c 6 (of_decide_eq_true rfl)
        have cs_7 : w2.cell? ⟨(w.heap.size + 1), 7, none⟩ = some (.int .i64 o) := A1_2.c 7 (of_decide_eq_true rfl)
        have cz_0 : w2.cell? ⟨(w.heap.size + 1 + 1), 0, none⟩ = some (.int .i64 0) := A2_2.c 0 (of_decide_eq_true rfl)
        have gz_0 := A2_2.f 0 (of_decide_eq_true rfl)
        have cz_1 : w2.cell? ⟨(w.heap.size + 1 + 1), 1, none⟩ = some (.int .i64 0) := A2_2.c 1 (of_decide_eq_true rfl)
        have gz_1 := A2_2.f 1 (of_decide_eq_true rfl)
        have cz_2 : w2.cell? ⟨(w.heap.size + 1 + 1), 2, none⟩ = some (.int .i64 0) := A2_2.c 2 (of_decide_eq_true rfl)
        have gz_2 := A2_2.f 2 (of_decide_eq_true rfl)
        have cz_3 : w2.cell? ⟨(w.heap.size + 1 + 1), 3, none⟩ = some (.int .i64 0) := A2_2.c 3 (of_decide_eq_true rfl)
        have gz_3 := A2_2.f 3 (of_decide_eq_true rfl)
        have cz_4 : w2.cell? ⟨(w.heap.size + 1 + 1), 4, none⟩ = some (.int .i64 0) := A2_2.c 4 (of_decide_eq_true rfl)
        have gz_4 := A2_2.f 4 (of_decide_eq_true rfl)
        have cz_5 : w2.cell? ⟨(w.heap.size + 1 + 1), 5, none⟩ = some (.int .i64 0) := A2_2.c 5 (of_decide_eq_true rfl)
        have gz_5 := A2_2.f 5 (of_decide_eq_true rfl)
        have l2 := A2_2.lies
        go_wp2_with (with_reducible refine post_stop ?_)
        have A9 := ((((((A2_2.put 0 (of_decide_eq_true rfl) (.int .i64 1) [.int .i64 1, .int .i64 0, .int .i64 0, .int .i64 0, .int .i64 0, .int .i64 0] rfl).put 1 (of_decide_eq_true rfl) (.int .i64 0) [.int .i64 1, .int .i64 0, .int .i64 0, .int .i64 0, .int .i64 0, .int .i64 0] rfl).put 2 (of_decide_eq_true rfl) (.int .i64 0) [.int .i64 1, .int .i64 0, .int .i64 0, .int .i64 0, .int .i64 0, .int .i64 0] rfl).put 3 (of_decide_eq_true rfl) (.int .i64 0) [.int .i64 1, .int .i64 0, .int .i64 0, .int .i64 0, .int .i64 0, .int .i64 0] rfl).put 4 (of_decide_eq_true rfl) (.int .i64 0) [.int .i64 1, .int .i64 0, .int .i64 0, .int .i64 0, .int .i64 0, .int .i64 0] rfl).put 5 (of_decide_eq_true rfl) (.int .i64 f) [.int .i64 1, .int .i64 0, .int .i64 0, .int .i64 0, .int .i64 0, .int .i64 f] rfl)
        have K9 := (bel_new (bel_new (bel_new (bel_new (bel_new (bel_new K2 (w.heap.size + 1 + 1) 0 (by omega) (.int .i64 1)) (w.heap.size + 1 + 1) 1 (by omega) (.int .i64 0)) (w.heap.size + 1 + 1) 2 (by omega) (.int .i64 0)) (w.heap.size + 1 + 1) 3 (by omega) (.int .i64 0)) (w.heap.size + 1 + 1) 4 (by omega) (.int .i64 0)) (w.heap.size + 1 + 1) 5 (by omega) (.int .i64 f))
        clear cp_0 gp_0 cp_1 gp_1 cp_2 gp_2 cp_3 gp_3 cp_4 gp_4 cp_5 gp_5 cs_0 cs_1 cs_2 cs_3 cs_4 cs_5 cs_6 cs_7 cz_0 gz_0 cz_1 gz_1 cz_2 gz_2 cz_3 gz_3 cz_4 gz_4 cz_5 gz_5
        exact ⟨bodyPost_ret (v := .agg #[.int .i64 1, .int .i64 0, .int .i64 0, .int .i64 0, .int .i64 0, .int .i64 f]) (results_arr Try.results14 A9 rfl (by kernel_rfl) (by kernel_rfl)) rfl ⟨by rw [HS.out], K9⟩⟩
      · have HS : Hid (plV (detS ⟨m, c, g, i, l, f⟩ ⟨gap, true, true, pair, lit, bad, pass, o⟩) = .agg #[.int .i64 m, .int .i64 (cntS c true), .int .i64 g, .int .i64 i, .int .i64 l, .int .i64 f]) := by show plV _ = _; first | exact congrArg plV (if_neg t) | rfl | exact congrArg plV (if_neg t) | exact congrArg plV (if_neg u) | exact congrArg plV (if_pos u)
        go_enter Try.func14, Try.ntmps14
        go_wp2_with fail
        refine (counted_any c true _ hc).mono ?_
        rintro e w1 ⟨rfl, b1⟩
        have A0_1 : Arr w.heap.size [.int .i64 m, .int .i64 c, .int .i64 g, .int .i64 i, .int .i64 l, .int .i64 f] w1 := (((Arr_at _ w.heap.size [.int .i64 m, .int .i64 c, .int .i64 g, .int .i64 i, .int .i64 l, .int .i64 f] 23 (by simp)).alloc _).alloc _).below b1
        have A1_1 : Arr (w.heap.size + 1) [.bool gap, .bool true, .bool true, .bool pair, .bool lit, .bool bad, .bool pass, .int .i64 o] w1 := ((Arr_at _ (w.heap.size + 1) [.bool gap, .bool true, .bool true, .bool pair, .bool lit, .bool bad, .bool pass, .int .i64 o] 25 (by simp)).alloc _).below b1
        have A2_1 : Arr (w.heap.size + 1 + 1) [.int .i64 0, .int .i64 0, .int .i64 0, .int .i64 0, .int .i64 0, .int .i64 0] w1 := (Arr_at _ (w.heap.size + 1 + 1) [.int .i64 0, .int .i64 0, .int .i64 0, .int .i64 0, .int .i64 0, .int .i64 0] 23 (by simp)).below b1
        have K1 : Below w.heap.size w w1 := bel_then (bel_al (bel_al (bel_al (Below.refl w.heap.size w) _) _) _) b1
        clear b1
        have cp_0 : w1.cell? ⟨w.heap.size, 0, none⟩ = some (.int .i64 m) := A0_1.c 0 (of_decide_eq_true rfl)
        have gp_0 := A0_1.f 0 (of_decide_eq_true rfl)
        have cp_1 : w1.cell? ⟨w.heap.size, 1, none⟩ = some (.int .i64 c) := A0_1.c 1 (of_decide_eq_true rfl)
        have gp_1 := A0_1.f 1 (of_decide_eq_true rfl)
        have cp_2 : w1.cell? ⟨w.heap.size, 2, none⟩ = some (.int .i64 g) := A0_1.c 2 (of_decide_eq_true rfl)
        have gp_2 := A0_1.f 2 (of_decide_eq_true rfl)
        have cp_3 : w1.cell? ⟨w.heap.size, 3, none⟩ = some (.int .i64 i) := A0_1.c 3 (of_decide_eq_true rfl)
        have gp_3 := A0_1.f 3 (of_decide_eq_true rfl)
        have cp_4 : w1.cell? ⟨w.heap.size, 4, none⟩ = some (.int .i64 l) := A0_1.c 4 (of_decide_eq_true rfl)
        have gp_4 := A0_1.f 4 (of_decide_eq_true rfl)
        have cp_5 : w1.cell? ⟨w.heap.size, 5, none⟩ = some (.int .i64 f) := A0_1.c 5 (of_decide_eq_true rfl)
        have gp_5 := A0_1.f 5 (of_decide_eq_true rfl)
        have cs_0 : w1.cell? ⟨(w.heap.size + 1), 0, none⟩ = some (.bool gap) := A1_1.c 0 (of_decide_eq_true rfl)
        have cs_1 : w1.cell? ⟨(w.heap.size + 1), 1, none⟩ = some (.bool true) := A1_1.c 1 (of_decide_eq_true rfl)
        have cs_2 : w1.cell? ⟨(w.heap.size + 1), 2, none⟩ = some (.bool true) := A1_1.c 2 (of_decide_eq_true rfl)
        have cs_3 : w1.cell? ⟨(w.heap.size + 1), 3, none⟩ = some (.bool pair) := A1_1.c 3 (of_decide_eq_true rfl)
        have cs_4 : w1.cell? ⟨(w.heap.size + 1), 4, none⟩ = some (.bool lit) := A1_1.c 4 (of_decide_eq_true rfl)
        have cs_5 : w1.cell? ⟨(w.heap.size + 1), 5, none⟩ = some (.bool bad) := A1_1.c 5 (of_decide_eq_true rfl)
        have cs_6 : w1.cell? ⟨(w.heap.size + 1), 6, none⟩ = some (.bool pass) := A1_1.c 6 (of_decide_eq_true rfl)
        have cs_7 : w1.cell? ⟨(w.heap.size + 1), 7, none⟩ = some (.int .i64 o) := A1_1.c 7 (of_decide_eq_true rfl)
        have cz_0 : w1.cell? ⟨(w.heap.size + 1 + 1), 0, none⟩ = some (.int .i64 0) := A2_1.c 0 (of_decide_eq_true rfl)
        have gz_0 := A2_1.f 0 (of_decide_eq_true rfl)
        have cz_1 : w1.cell? ⟨(w.heap.size + 1 + 1), 1, none⟩ = some (.int .i64 0) := A2_1.c 1 (of_decide_eq_true rfl)
        have gz_1 := A2_1.f 1 (of_decide_eq_true rfl)
        have cz_2 : w1.cell? ⟨(w.heap.size + 1 + 1), 2, none⟩ = some (.int .i64 0) := A2_1.c 2 (of_decide_eq_true rfl)
        have gz_2 := A2_1.f 2 (of_decide_eq_true rfl)
        have cz_3 : w1.cell? ⟨(w.heap.size + 1 + 1), 3, none⟩ = some (.int .i64 0) := A2_1.c 3 (of_decide_eq_true rfl)
        have gz_3 := A2_1.f 3 (of_decide_eq_true rfl)
        have cz_4 : w1.cell? ⟨(w.heap.size + 1 + 1), 4, none⟩ = some (.int .i64 0) := A2_1.c 4 (of_decide_eq_true rfl)
        have gz_4 := A2_1.f 4 (of_decide_eq_true rfl)
        have cz_5 : w1.cell? ⟨(w.heap.size + 1 + 1), 5, none⟩ = some (.int .i64 0) := A2_1.c 5 (of_decide_eq_true rfl)
        have gz_5 := A2_1.f 5 (of_decide_eq_true rfl)
        have l1 := A2_1.lies
        go_wp2_with (with_reducible refine post_stop ?_)
        have A9 := (((((((A2_1.new w.heap.size 1 (by omega) (.int .i64 (cntS c true))).put 0 (of_decide_eq_true rfl) (.int .i64 m) [.int .i64 m, .int .i64 0, .int .i64 0, .int .i64 0, .int .i64 0, .int .i64 0] rfl).put 1 (of_decide_eq_true rfl) (.int .i64 (cntS c true)) [.int .i64 m, .int .i64 (cntS c true), .int .i64 0, .int .i64 0, .int .i64 0, .int .i64 0] rfl).put 2 (of_decide_eq_true rfl) (.int .i64 g) [.int .i64 m, .int .i64 (cntS c true), .int .i64 g, .int .i64 0, .int .i64 0, .int .i64 0] rfl).put 3 (of_decide_eq_true rfl) (.int .i64 i) [.int .i64 m, .int .i64 (cntS c true), .int .i64 g, .int .i64 i, .int .i64 0, .int .i64 0] rfl).put 4 (of_decide_eq_true rfl) (.int .i64 l) [.int .i64 m, .int .i64 (cntS c true), .int .i64 g, .int .i64 i, .int .i64 l, .int .i64 0] rfl).put 5 (of_decide_eq_true rfl) (.int .i64 f) [.int .i64 m, .int .i64 (cntS c true), .int .i64 g, .int .i64 i, .int .i64 l, .int .i64 f] rfl)
        have K9 := (bel_new (bel_new (bel_new (bel_new (bel_new (bel_new (bel_new K1 w.heap.size 1 (by omega) (.int .i64 (cntS c true))) (w.heap.size + 1 + 1) 0 (by omega) (.int .i64 m)) (w.heap.size + 1 + 1) 1 (by omega) (.int .i64 (cntS c true))) (w.heap.size + 1 + 1) 2 (by omega) (.int .i64 g)) (w.heap.size + 1 + 1) 3 (by omega) (.int .i64 i)) (w.heap.size + 1 + 1) 4 (by omega) (.int .i64 l)) (w.heap.size + 1 + 1) 5 (by omega) (.int .i64 f))
        clear cp_0 gp_0 cp_1 gp_1 cp_2 gp_2 cp_3 gp_3 cp_4 gp_4 cp_5 gp_5 cs_0 cs_1 cs_2 cs_3 cs_4 cs_5 cs_6 cs_7 cz_0 gz_0 cz_1 gz_1 cz_2 gz_2 cz_3 gz_3 cz_4 gz_4 cz_5 gz_5
        exact ⟨bodyPost_ret (v := .agg #[.int .i64 m, .int .i64 (cntS c true), .int .i64 g, .int .i64 i, .int .i64 l, .int .i64 f]) (results_arr Try.results14 A9 rfl (by kernel_rfl) (by kernel_rfl)) rfl ⟨by rw [HS.out], K9⟩⟩
set_option maxRecDepth 100000 in
set_option maxHeartbeats 4000000 in
theorem coa_any (m c g i l f : Int) (gap gyro slow pair lit bad pass : Bool) (o : Int) (w : World) (hg : I64 g) : Calls Try.prog 16 #[.agg #[.int .i64 m, .int .i64 c, .int .i64 g, .int .i64 i, .int .i64 l, .int .i64 f], .agg #[.bool gap, .bool gyro, .bool slow, .bool pair, .bool lit, .bool bad, .bool pass, .int .i64 o]] w fun e w' => e = .returned (plV (coaS ⟨m, c, g, i, l, f⟩ ⟨gap, gyro, slow, pair, lit, bad, pass, o⟩)) ∧ Below w.heap.size w w' := by
  cases gyro
  · have t : ¬ 2 ≤ cntS g false := by show ¬ (2 : Int) ≤ 0; decide
    have HS : Hid (plV (coaS ⟨m, c, g, i, l, f⟩ ⟨gap, false, slow, pair, lit, bad, pass, o⟩) = .agg #[.int .i64 m, .int .i64 c, .int .i64 (cntS g false), .int .i64 i, .int .i64 l, .int .i64 f]) := by show plV _ = _; first | exact congrArg plV (if_neg t) | rfl | exact congrArg plV (if_neg t) | exact congrArg plV (if_neg u) | exact congrArg plV (if_pos u)
    go_enter Try.func16, Try.ntmps16
    go_wp2_with fail
    refine (counted_any g false _ hg).mono ?_
    rintro e w1 ⟨rfl, b1⟩
    have A0_1 : Arr w.heap.size [.int .i64 m, .int .i64 c, .int .i64 g, .int .i64 i, .int .i64 l, .int .i64 f] w1 := (((Arr_at _ w.heap.size [.int .i64 m, .int .i64 c, .int .i64 g, .int .i64 i, .int .i64 l, .int .i64 f] 23 (by simp)).alloc _).alloc _).below b1
    have A1_1 : Arr (w.heap.size + 1) [.bool gap, .bool false, .bool slow, .bool pair, .bool lit, .bool bad, .bool pass, .int .i64 o] w1 := ((Arr_at _ (w.heap.size + 1) [.bool gap, .bool false, .bool slow, .bool pair, .bool lit, .bool bad, .bool pass, .int .i64 o] 25 (by simp)).alloc _).below b1
    have A2_1 : Arr (w.heap.size + 1 + 1) [.int .i64 0, .int .i64 0, .int .i64 0, .int .i64 0, .int .i64 0, .int .i64 0] w1 := (Arr_at _ (w.heap.size + 1 + 1) [.int .i64 0, .int .i64 0, .int .i64 0, .int .i64 0, .int .i64 0, .int .i64 0] 23 (by simp)).below b1
    have K1 : Below w.heap.size w w1 := bel_then (bel_al (bel_al (bel_al (Below.refl w.heap.size w) _) _) _) b1
    clear b1
    have cp_0 : w1.cell? ⟨w.heap.size, 0, none⟩ = some (.int .i64 m) := A0_1.c 0 (of_decide_eq_true rfl)
    have gp_0 := A0_1.f 0 (of_decide_eq_true rfl)
    have cp_1 : w1.cell? ⟨w.heap.size, 1, none⟩ = some (.int .i64 c) := A0_1.c 1 (of_decide_eq_true rfl)
    have gp_1 := A0_1.f 1 (of_decide_eq_true rfl)
    have cp_2 : w1.cell? ⟨w.heap.size, 2, none⟩ = some (.int .i64 g) := A0_1.c 2 (of_decide_eq_true rfl)
    have gp_2 := A0_1.f 2 (of_decide_eq_true rfl)
    have cp_3 : w1.cell? ⟨w.heap.size, 3, none⟩ = some (.int .i64 i) := A0_1.c 3 (of_decide_eq_true rfl)
    have gp_3 := A0_1.f 3 (of_decide_eq_true rfl)
    have cp_4 : w1.cell? ⟨w.heap.size, 4, none⟩ = some (.int .i64 l) := A0_1.c 4 (of_decide_eq_true rfl)
    have gp_4 := A0_1.f 4 (of_decide_eq_true rfl)
    have cp_5 : w1.cell? ⟨w.heap.size, 5, none⟩ = some (.int .i64 f) := A0_1.c 5 (of_decide_eq_true rfl)
    have gp_5 := A0_1.f 5 (of_decide_eq_true rfl)
    have cs_0 : w1.cell? ⟨(w.heap.size + 1), 0, none⟩ = some (.bool gap) := A1_1.c 0 (of_decide_eq_true rfl)
    have cs_1 : w1.cell? ⟨(w.heap.size + 1), 1, none⟩ = some (.bool false) := A1_1.c 1 (of_decide_eq_true rfl)
    have cs_2 : w1.cell? ⟨(w.heap.size + 1), 2, none⟩ = some (.bool slow) := A1_1.c 2 (of_decide_eq_true rfl)
    have cs_3 : w1.cell? ⟨(w.heap.size + 1), 3, none⟩ = some (.bool pair) := A1_1.c 3 (of_decide_eq_true rfl)
    have cs_4 : w1.cell? ⟨(w.heap.size + 1), 4, none⟩ = some (.bool lit) := A1_1.c 4 (of_decide_eq_true rfl)
    have cs_5 : w1.cell? ⟨(w.heap.size + 1), 5, none⟩ = some (.bool bad) := A1_1.c 5 (of_decide_eq_true rfl)
    have cs_6 : w1.cell? ⟨(w.heap.size + 1), 6, none⟩ = some (.bool pass) := A1_1.c 6 (of_decide_eq_true rfl)
    have cs_7 : w1.cell? ⟨(w.heap.size + 1), 7, none⟩ = some (.int .i64 o) := A1_1.c 7 (of_decide_eq_true rfl)
    have cz_0 : w1.cell? ⟨(w.heap.size + 1 + 1), 0, none⟩ = some (.int .i64 0) := A2_1.c 0 (of_decide_eq_true rfl)
    have gz_0 := A2_1.f 0 (of_decide_eq_true rfl)
    have cz_1 : w1.cell? ⟨(w.heap.size + 1 + 1), 1, none⟩ = some (.int .i64 0) := A2_1.c 1 (of_decide_eq_true rfl)
    have gz_1 := A2_1.f 1 (of_decide_eq_true rfl)
    have cz_2 : w1.cell? ⟨(w.heap.size + 1 + 1), 2, none⟩ = some (.int .i64 0) := A2_1.c 2 (of_decide_eq_true rfl)
    have gz_2 := A2_1.f 2 (of_decide_eq_true rfl)
    have cz_3 : w1.cell? ⟨(w.heap.size + 1 + 1), 3, none⟩ = some (.int .i64 0) := A2_1.c 3 (of_decide_eq_true rfl)
    have gz_3 := A2_1.f 3 (of_decide_eq_true rfl)
    have cz_4 : w1.cell? ⟨(w.heap.size + 1 + 1), 4, none⟩ = some (.int .i64 0) := A2_1.c 4 (of_decide_eq_true rfl)
    have gz_4 := A2_1.f 4 (of_decide_eq_true rfl)
    have cz_5 : w1.cell? ⟨(w.heap.size + 1 + 1), 5, none⟩ = some (.int .i64 0) := A2_1.c 5 (of_decide_eq_true rfl)
    have gz_5 := A2_1.f 5 (of_decide_eq_true rfl)
    have l1 := A2_1.lies
    go_wp2_with (with_reducible refine post_stop ?_)
    have A9 := (((((((A2_1.new w.heap.size 2 (by omega) (.int .i64 (cntS g false))).put 0 (of_decide_eq_true rfl) (.int .i64 m) [.int .i64 m, .int .i64 0, .int .i64 0, .int .i64 0, .int .i64 0, .int .i64 0] rfl).put 1 (of_decide_eq_true rfl) (.int .i64 c) [.int .i64 m, .int .i64 c, .int .i64 0, .int .i64 0, .int .i64 0, .int .i64 0] rfl).put 2 (of_decide_eq_true rfl) (.int .i64 (cntS g false)) [.int .i64 m, .int .i64 c, .int .i64 (cntS g false), .int .i64 0, .int .i64 0, .int .i64 0] rfl).put 3 (of_decide_eq_true rfl) (.int .i64 i) [.int .i64 m, .int .i64 c, .int .i64 (cntS g false), .int .i64 i, .int .i64 0, .int .i64 0] rfl).put 4 (of_decide_eq_true rfl) (.int .i64 l) [.int .i64 m, .int .i64 c, .int .i64 (cntS g false), .int .i64 i, .int .i64 l, .int .i64 0] rfl).put 5 (of_decide_eq_true rfl) (.int .i64 f) [.int .i64 m, .int .i64 c, .int .i64 (cntS g false), .int .i64 i, .int .i64 l, .int .i64 f] rfl)
    have K9 := (bel_new (bel_new (bel_new (bel_new (bel_new (bel_new (bel_new K1 w.heap.size 2 (by omega) (.int .i64 (cntS g false))) (w.heap.size + 1 + 1) 0 (by omega) (.int .i64 m)) (w.heap.size + 1 + 1) 1 (by omega) (.int .i64 c)) (w.heap.size + 1 + 1) 2 (by omega) (.int .i64 (cntS g false))) (w.heap.size + 1 + 1) 3 (by omega) (.int .i64 i)) (w.heap.size + 1 + 1) 4 (by omega) (.int .i64 l)) (w.heap.size + 1 + 1) 5 (by omega) (.int .i64 f))
    clear cp_0 gp_0 cp_1 gp_1 cp_2 gp_2 cp_3 gp_3 cp_4 gp_4 cp_5 gp_5 cs_0 cs_1 cs_2 cs_3 cs_4 cs_5 cs_6 cs_7 cz_0 gz_0 cz_1 gz_1 cz_2 gz_2 cz_3 gz_3 cz_4 gz_4 cz_5 gz_5
    exact ⟨bodyPost_ret (v := .agg #[.int .i64 m, .int .i64 c, .int .i64 (cntS g false), .int .i64 i, .int .i64 l, .int .i64 f]) (results_arr Try.results16 A9 rfl (by kernel_rfl) (by kernel_rfl)) rfl ⟨by rw [HS.out], K9⟩⟩
  · cases slow
    · have HS : Hid (plV (coaS ⟨m, c, g, i, l, f⟩ ⟨gap, true, false, pair, lit, bad, pass, o⟩) = .agg #[.int .i64 0, .int .i64 0, .int .i64 0, .int .i64 0, .int .i64 0, .int .i64 f]) := by show plV _ = _; first | exact rfl | rfl | exact congrArg plV (if_neg t) | exact congrArg plV (if_neg u) | exact congrArg plV (if_pos u)
      go_enter Try.func16, Try.ntmps16
      go_wp2_with fail
      refine (goTo_any 0 m c g i l f _).mono ?_
      rintro e w1 ⟨rfl, b1⟩
      have A0_1 : Arr w.heap.size [.int .i64 m, .int .i64 c, .int .i64 g, .int .i64 i, .int .i64 l, .int .i64 f] w1 := (((Arr_at _ w.heap.size [.int .i64 m, .int .i64 c, .int .i64 g, .int .i64 i, .int .i64 l, .int .i64 f] 23 (by simp)).alloc _).alloc _).below b1
      have A1_1 : Arr (w.heap.size + 1) [.bool gap, .bool true, .bool false, .bool pair, .bool lit, .bool bad, .bool pass, .int .i64 o] w1 := ((Arr_at _ (w.heap.size + 1) [.bool gap, .bool true, .bool false, .bool pair, .bool lit, .bool bad, .bool pass, .int .i64 o] 25 (by simp)).alloc _).below b1
      have A2_1 : Arr (w.heap.size + 1 + 1) [.int .i64 0, .int .i64 0, .int .i64 0, .int .i64 0, .int .i64 0, .int .i64 0] w1 := (Arr_at _ (w.heap.size + 1 + 1) [.int .i64 0, .int .i64 0, .int .i64 0, .int .i64 0, .int .i64 0, .int .i64 0] 23 (by simp)).below b1
      have K1 : Below w.heap.size w w1 := bel_then (bel_al (bel_al (bel_al (Below.refl w.heap.size w) _) _) _) b1
      clear b1
      have cp_0 : w1.cell? ⟨w.heap.size, 0, none⟩ = some (.int .i64 m) := A0_1.c 0 (of_decide_eq_true rfl)
      have gp_0 := A0_1.f 0 (of_decide_eq_true rfl)
      have cp_1 : w1.cell? ⟨w.heap.size, 1, none⟩ = some (.int .i64 c) := A0_1.c 1 (of_decide_eq_true rfl)
      have gp_1 := A0_1.f 1 (of_decide_eq_true rfl)
      have cp_2 : w1.cell? ⟨w.heap.size, 2, none⟩ = some (.int .i64 g) := A0_1.c 2 (of_decide_eq_true rfl)
      have gp_2 := A0_1.f 2 (of_decide_eq_true rfl)
      have cp_3 : w1.cell? ⟨w.heap.size, 3, none⟩ = some (.int .i64 i) := A0_1.c 3 (of_decide_eq_true rfl)
      have gp_3 := A0_1.f 3 (of_decide_eq_true rfl)
      have cp_4 : w1.cell? ⟨w.heap.size, 4, none⟩ = some (.int .i64 l) := A0_1.c 4 (of_decide_eq_true rfl)
      have gp_4 := A0_1.f 4 (of_decide_eq_true rfl)
      have cp_5 : w1.cell? ⟨w.heap.size, 5, none⟩ = some (.int .i64 f) := A0_1.c 5 (of_decide_eq_true rfl)
      have gp_5 := A0_1.f 5 (of_decide_eq_true rfl)
      have cs_0 : w1.cell? ⟨(w.heap.size + 1), 0, none⟩ = some (.bool gap) := A1_1.c 0 (of_decide_eq_true rfl)
      have cs_1 : w1.cell? ⟨(w.heap.size + 1), 1, none⟩ = some (.bool true) := A1_1.c 1 (of_decide_eq_true rfl)
      have cs_2 : w1.cell? ⟨(w.heap.size + 1), 2, none⟩ = some (.bool false) := A1_1.c 2 (of_decide_eq_true rfl)
      have cs_3 : w1.cell? ⟨(w.heap.size + 1), 3, none⟩ = some (.bool pair) := A1_1.c 3 (of_decide_eq_true rfl)
      have cs_4 : w1.cell? ⟨(w.heap.size + 1), 4, none⟩ = some (.bool lit) := A1_1.c 4 (of_decide_eq_true rfl)
      have cs_5 : w1.cell? ⟨(w.heap.size + 1), 5, none⟩ = some (.bool bad) := A1_1.c 5 (of_decide_eq_true rfl)
      have cs_6 : w1.cell? ⟨(w.heap.size + 1), 6, none⟩ = some (.bool pass) := A1_1.c 6 (of_decide_eq_true rfl)
      have cs_7 : w1.cell? ⟨(w.heap.size + 1), 7, none⟩ = some (.int .i64 o) := A1_1.c 7 (of_decide_eq_true rfl)
      have cz_0 : w1.cell? ⟨(w.heap.size + 1 + 1), 0, none⟩ = some (.int .i64 0) := A2_1.c 0 (of_decide_eq_true rfl)
      have gz_0 := A2_1.f 0 (of_decide_eq_true rfl)
      have cz_1 : w1.cell? ⟨(w.heap.size + 1 + 1), 1, none⟩ = some (.int .i64 0) := A2_1.c 1 (of_decide_eq_true rfl)
      have gz_1 := A2_1.f 1 (of_decide_eq_true rfl)
      have cz_2 : w1.cell? ⟨(w.heap.size + 1 + 1), 2, none⟩ = some (.int .i64 0) := A2_1.c 2 (of_decide_eq_true rfl)
      have gz_2 := A2_1.f 2 (of_decide_eq_true rfl)
      have cz_3 : w1.cell? ⟨(w.heap.size + 1 + 1), 3, none⟩ = some (.int .i64 0) := A2_1.c 3 (of_decide_eq_true rfl)
      have gz_3 := A2_1.f 3 (of_decide_eq_true rfl)
      have cz_4 : w1.cell? ⟨(w.heap.size + 1 + 1), 4, none⟩ = some (.int .i64 0) := A2_1.c 4 (of_decide_eq_true rfl)
      have gz_4 := A2_1.f 4 (of_decide_eq_true rfl)
      have cz_5 : w1.cell? ⟨(w.heap.size + 1 + 1), 5, none⟩ = some (.int .i64 0) := A2_1.c 5 (of_decide_eq_true rfl)
      have gz_5 := A2_1.f 5 (of_decide_eq_true rfl)
      have l1 := A2_1.lies
      go_wp2_with (with_reducible refine post_stop ?_)
      have A9 := ((((((A2_1.put 0 (of_decide_eq_true rfl) (.int .i64 0) [.int .i64 0, .int .i64 0, .int .i64 0, .int .i64 0, .int .i64 0, .int .i64 0] rfl).put 1 (of_decide_eq_true rfl) (.int .i64 0) [.int .i64 0, .int .i64 0, .int .i64 0, .int .i64 0, .int .i64 0, .int .i64 0] rfl).put 2 (of_decide_eq_true rfl) (.int .i64 0) [.int .i64 0, .int .i64 0, .int .i64 0, .int .i64 0, .int .i64 0, .int .i64 0] rfl).put 3 (of_decide_eq_true rfl) (.int .i64 0) [.int .i64 0, .int .i64 0, .int .i64 0, .int .i64 0, .int .i64 0, .int .i64 0] rfl).put 4 (of_decide_eq_true rfl) (.int .i64 0) [.int .i64 0, .int .i64 0, .int .i64 0, .int .i64 0, .int .i64 0, .int .i64 0] rfl).put 5 (of_decide_eq_true rfl) (.int .i64 f) [.int .i64 0, .int .i64 0, .int .i64 0, .int .i64 0, .int .i64 0, .int .i64 f] rfl)
      have K9 := (bel_new (bel_new (bel_new (bel_new (bel_new (bel_new K1 (w.heap.size + 1 + 1) 0 (by omega) (.int .i64 0)) (w.heap.size + 1 + 1) 1 (by omega) (.int .i64 0)) (w.heap.size + 1 + 1) 2 (by omega) (.int .i64 0)) (w.heap.size + 1 + 1) 3 (by omega) (.int .i64 0)) (w.heap.size + 1 + 1) 4 (by omega) (.int .i64 0)) (w.heap.size + 1 + 1) 5 (by omega) (.int .i64 f))
      clear cp_0 gp_0 cp_1 gp_1 cp_2 gp_2 cp_3 gp_3 cp_4 gp_4 cp_5 gp_5 cs_0 cs_1 cs_2 cs_3 cs_4 cs_5 cs_6 cs_7 cz_0 gz_0 cz_1 gz_1 cz_2 gz_2 cz_3 gz_3 cz_4 gz_4 cz_5 gz_5
      exact ⟨bodyPost_ret (v := .agg #[.int .i64 0, .int .i64 0, .int .i64 0, .int .i64 0, .int .i64 0, .int .i64 f]) (results_arr Try.results16 A9 rfl (by kernel_rfl) (by kernel_rfl)) rfl ⟨by rw [HS.out], K9⟩⟩
    · cases pair
      · have t : ¬ 2 ≤ cntS g false := by show ¬ (2 : Int) ≤ 0; decide
        have HS : Hid (plV (coaS ⟨m, c, g, i, l, f⟩ ⟨gap, true, true, false, lit, bad, pass, o⟩) = .agg #[.int .i64 m, .int .i64 c, .int .i64 (cntS g false), .int .i64 i, .int .i64 l, .int .i64 f]) := by show plV _ = _; first | exact congrArg plV (if_neg t) | rfl | exact congrArg plV (if_neg t) | exact congrArg plV (if_neg u) | exact congrArg plV (if_pos u)
        go_enter Try.func16, Try.ntmps16
        go_wp2_with fail
        refine (counted_any g false _ hg).mono ?_
        rintro e w1 ⟨rfl, b1⟩
        have A0_1 : Arr w.heap.size [.int .i64 m, .int .i64 c, .int .i64 g, .int .i64 i, .int .i64 l, .int .i64 f] w1 := (((Arr_at _ w.heap.size [.int .i64 m, .int .i64 c, .int .i64 g, .int .i64 i, .int .i64 l, .int .i64 f] 23 (by simp)).alloc _).alloc _).below b1
        have A1_1 : Arr (w.heap.size + 1) [.bool gap, .bool true, .bool true, .bool false, .bool lit, .bool bad, .bool pass, .int .i64 o] w1 := ((Arr_at _ (w.heap.size + 1) [.bool gap, .bool true, .bool true, .bool false, .bool lit, .bool bad, .bool pass, .int .i64 o] 25 (by simp)).alloc _).below b1
        have A2_1 : Arr (w.heap.size + 1 + 1) [.int .i64 0, .int .i64 0, .int .i64 0, .int .i64 0, .int .i64 0, .int .i64 0] w1 := (Arr_at _ (w.heap.size + 1 + 1) [.int .i64 0, .int .i64 0, .int .i64 0, .int .i64 0, .int .i64 0, .int .i64 0] 23 (by simp)).below b1
        have K1 : Below w.heap.size w w1 := bel_then (bel_al (bel_al (bel_al (Below.refl w.heap.size w) _) _) _) b1
        clear b1
        have cp_0 : w1.cell? ⟨w.heap.size, 0, none⟩ = some (.int .i64 m) := A0_1.c 0 (of_decide_eq_true rfl)
        have gp_0 := A0_1.f 0 (of_decide_eq_true rfl)
        have cp_1 : w1.cell? ⟨w.heap.size, 1, none⟩ = some (.int .i64 c) := A0_1.c 1 (of_decide_eq_true rfl)
        have gp_1 := A0_1.f 1 (of_decide_eq_true rfl)
        have cp_2 : w1.cell? ⟨w.heap.size, 2, none⟩ = some (.int .i64 g) := A0_1.c 2 (of_decide_eq_true rfl)
        have gp_2 := A0_1.f 2 (of_decide_eq_true rfl)
        have cp_3 : w1.cell? ⟨w.heap.size, 3, none⟩ = some (.int .i64 i) := A0_1.c 3 (of_decide_eq_true rfl)
        have gp_3 := A0_1.f 3 (of_decide_eq_true rfl)
        have cp_4 : w1.cell? ⟨w.heap.size, 4, none⟩ = some (.int .i64 l) := A0_1.c 4 (of_decide_eq_true rfl)
        have gp_4 := A0_1.f 4 (of_decide_eq_true rfl)
        have cp_5 : w1.cell? ⟨w.heap.size, 5, none⟩ = some (.int .i64 f) := A0_1.c 5 (of_decide_eq_true rfl)
        have gp_5 := A0_1.f 5 (of_decide_eq_true rfl)
        have cs_0 : w1.cell? ⟨(w.heap.size + 1), 0, none⟩ = some (.bool gap) := A1_1.c 0 (of_decide_eq_true rfl)
        have cs_1 : w1.cell? ⟨(w.heap.size + 1), 1, none⟩ = some (.bool true) := A1_1.c 1 (of_decide_eq_true rfl)
        have cs_2 : w1.cell? ⟨(w.heap.size + 1), 2, none⟩ = some (.bool true) := A1_1.c 2 (of_decide_eq_true rfl)
        have cs_3 : w1.cell? ⟨(w.heap.size + 1), 3, none⟩ = some (.bool false) := A1_1.c 3 (of_decide_eq_true rfl)
        have cs_4 : w1.cell? ⟨(w.heap.size + 1), 4, none⟩ = some (.bool lit) := A1_1.c 4 (of_decide_eq_true rfl)
        have cs_5 : w1.cell? ⟨(w.heap.size + 1), 5, none⟩ = some (.bool bad) := A1_1.c 5 (of_decide_eq_true rfl)
        have cs_6 : w1.cell? ⟨(w.heap.size + 1), 6, none⟩ = some (.bool pass) := A1_1.c 6 (of_decide_eq_true rfl)
        have cs_7 : w1.cell? ⟨(w.heap.size + 1), 7, none⟩ = some (.int .i64 o) := A1_1.c 7 (of_decide_eq_true rfl)
        have cz_0 : w1.cell? ⟨(w.heap.size + 1 + 1), 0, none⟩ = some (.int .i64 0) := A2_1.c 0 (of_decide_eq_true rfl)
        have gz_0 := A2_1.f 0 (of_decide_eq_true rfl)
        have cz_1 : w1.cell? ⟨(w.heap.size + 1 + 1), 1, none⟩ = some (.int .i64 0) := A2_1.c 1 (of_decide_eq_true rfl)
        have gz_1 := A2_1.f 1 (of_decide_eq_true rfl)
        have cz_2 : w1.cell? ⟨(w.heap.size + 1 + 1), 2, none⟩ = some (.int .i64 0) := A2_1.c 2 (of_decide_eq_true rfl)
        have gz_2 := A2_1.f 2 (of_decide_eq_true rfl)
        have cz_3 : w1.cell? ⟨(w.heap.size + 1 + 1), 3, none⟩ = some (.int .i64 0) := A2_1.c 3 (of_decide_eq_true rfl)
        have gz_3 := A2_1.f 3 (of_decide_eq_true rfl)
        have cz_4 : w1.cell? ⟨(w.heap.size + 1 + 1), 4, none⟩ = some (.int .i64 0) := A2_1.c 4 (of_decide_eq_true rfl)
        have gz_4 := A2_1.f 4 (of_decide_eq_true rfl)
        have cz_5 : w1.cell? ⟨(w.heap.size + 1 + 1), 5, none⟩ = some (.int .i64 0) := A2_1.c 5 (of_decide_eq_true rfl)
        have gz_5 := A2_1.f 5 (of_decide_eq_true rfl)
        have l1 := A2_1.lies
        go_wp2_with (with_reducible refine post_stop ?_)
        have A9 := (((((((A2_1.new w.heap.size 2 (by omega) (.int .i64 (cntS g false))).put 0 (of_decide_eq_true rfl) (.int .i64 m) [.int .i64 m, .int .i64 0, .int .i64 0, .int .i64 0, .int .i64 0, .int .i64 0] rfl).put 1 (of_decide_eq_true rfl) (.int .i64 c) [.int .i64 m, .int .i64 c, .int .i64 0, .int .i64 0, .int .i64 0, .int .i64 0] rfl).put 2 (of_decide_eq_true rfl) (.int .i64 (cntS g false)) [.int .i64 m, .int .i64 c, .int .i64 (cntS g false), .int .i64 0, .int .i64 0, .int .i64 0] rfl).put 3 (of_decide_eq_true rfl) (.int .i64 i) [.int .i64 m, .int .i64 c, .int .i64 (cntS g false), .int .i64 i, .int .i64 0, .int .i64 0] rfl).put 4 (of_decide_eq_true rfl) (.int .i64 l) [.int .i64 m, .int .i64 c, .int .i64 (cntS g false), .int .i64 i, .int .i64 l, .int .i64 0] rfl).put 5 (of_decide_eq_true rfl) (.int .i64 f) [.int .i64 m, .int .i64 c, .int .i64 (cntS g false), .int .i64 i, .int .i64 l, .int .i64 f] rfl)
        have K9 := (bel_new (bel_new (bel_new (bel_new (bel_new (bel_new (bel_new K1 w.heap.size 2 (by omega) (.int .i64 (cntS g false))) (w.heap.size + 1 + 1) 0 (by omega) (.int .i64 m)) (w.heap.size + 1 + 1) 1 (by omega) (.int .i64 c)) (w.heap.size + 1 + 1) 2 (by omega) (.int .i64 (cntS g false))) (w.heap.size + 1 + 1) 3 (by omega) (.int .i64 i)) (w.heap.size + 1 + 1) 4 (by omega) (.int .i64 l)) (w.heap.size + 1 + 1) 5 (by omega) (.int .i64 f))
        clear cp_0 gp_0 cp_1 gp_1 cp_2 gp_2 cp_3 gp_3 cp_4 gp_4 cp_5 gp_5 cs_0 cs_1 cs_2 cs_3 cs_4 cs_5 cs_6 cs_7 cz_0 gz_0 cz_1 gz_1 cz_2 gz_2 cz_3 gz_3 cz_4 gz_4 cz_5 gz_5
        exact ⟨bodyPost_ret (v := .agg #[.int .i64 m, .int .i64 c, .int .i64 (cntS g false), .int .i64 i, .int .i64 l, .int .i64 f]) (results_arr Try.results16 A9 rfl (by kernel_rfl) (by kernel_rfl)) rfl ⟨by rw [HS.out], K9⟩⟩
      · cases lit
        · have t : ¬ 2 ≤ cntS g false := by show ¬ (2 : Int) ≤ 0; decide
          have HS : Hid (plV (coaS ⟨m, c, g, i, l, f⟩ ⟨gap, true, true, true, false, bad, pass, o⟩) = .agg #[.int .i64 m, .int .i64 c, .int .i64 (cntS g false), .int .i64 i, .int .i64 l, .int .i64 f]) := by show plV _ = _; first | exact congrArg plV (if_neg t) | rfl | exact congrArg plV (if_neg t) | exact congrArg plV (if_neg u) | exact congrArg plV (if_pos u)
          go_enter Try.func16, Try.ntmps16
          go_wp2_with fail
          refine (counted_any g false _ hg).mono ?_
          rintro e w1 ⟨rfl, b1⟩
          have A0_1 : Arr w.heap.size [.int .i64 m, .int .i64 c, .int .i64 g, .int .i64 i, .int .i64 l, .int .i64 f] w1 := (((Arr_at _ w.heap.size [.int .i64 m, .int .i64 c, .int .i64 g, .int .i64 i, .int .i64 l, .int .i64 f] 23 (by simp)).alloc _).alloc _).below b1
          have A1_1 : Arr (w.heap.size + 1) [.bool gap, .bool true, .bool true, .bool true, .bool false, .bool bad, .bool pass, .int .i64 o] w1 := ((Arr_at _ (w.heap.size + 1) [.bool gap, .bool true, .bool true, .bool true, .bool false, .bool bad, .bool pass, .int .i64 o] 25 (by simp)).alloc _).below b1
          have A2_1 : Arr (w.heap.size + 1 + 1) [.int .i64 0, .int .i64 0, .int .i64 0, .int .i64 0, .int .i64 0, .int .i64 0] w1 := (Arr_at _ (w.heap.size + 1 + 1) [.int .i64 0, .int .i64 0, .int .i64 0, .int .i64 0, .int .i64 0, .int .i64 0] 23 (by simp)).below b1
          have K1 : Below w.heap.size w w1 := bel_then (bel_al (bel_al (bel_al (Below.refl w.heap.size w) _) _) _) b1
          clear b1
          have cp_0 : w1.cell? ⟨w.heap.size, 0, none⟩ = some (.int .i64 m) := A0_1.c 0 (of_decide_eq_true rfl)
          have gp_0 := A0_1.f 0 (of_decide_eq_true rfl)
          have cp_1 : w1.cell? ⟨w.heap.size, 1, none⟩ = some (.int .i64 c) := A0_1.c 1 (of_decide_eq_true rfl)
          have gp_1 := A0_1.f 1 (of_decide_eq_true rfl)
          have cp_2 : w1.cell? ⟨w.heap.size, 2, none⟩ = some (.int .i64 g) := A0_1.c 2 (of_decide_eq_true rfl)
          have gp_2 := A0_1.f 2 (of_decide_eq_true rfl)
          have cp_3 : w1.cell? ⟨w.heap.size, 3, none⟩ = some (.int .i64 i) := A0_1.c 3 (of_decide_eq_true rfl)
          have gp_3 := A0_1.f 3 (of_decide_eq_true rfl)
          have cp_4 : w1.cell? ⟨w.heap.size, 4, none⟩ = some (.int .i64 l) := A0_1.c 4 (of_decide_eq_true rfl)
          have gp_4 := A0_1.f 4 (of_decide_eq_true rfl)
          have cp_5 : w1.cell? ⟨w.heap.size, 5, none⟩ = some (.int .i64 f) := A0_1.c 5 (of_decide_eq_true rfl)
          have gp_5 := A0_1.f 5 (of_decide_eq_true rfl)
          have cs_0 : w1.cell? ⟨(w.heap.size + 1), 0, none⟩ = some (.bool gap) := A1_1.c 0 (of_decide_eq_true rfl)
          have cs_1 : w1.cell? ⟨(w.heap.size + 1), 1, none⟩ = some (.bool true) := A1_1.c 1 (of_decide_eq_true rfl)
          have cs_2 : w1.cell? ⟨(w.heap.size + 1), 2, none⟩ = some (.bool true) := A1_1.c 2 (of_decide_eq_true rfl)
          have cs_3 : w1.cell? ⟨(w.heap.size + 1), 3, none⟩ = some (.bool true) := A1_1.c 3 (of_decide_eq_true rfl)
          have cs_4 : w1.cell? ⟨(w.heap.size + 1), 4, none⟩ = some (.bool false) := A1_1.c 4 (of_decide_eq_true rfl)
          have cs_5 : w1.cell? ⟨(w.heap.size + 1), 5, none⟩ = some (.bool bad) := A1_1.c 5 (of_decide_eq_true rfl)
          have cs_6 : w1.cell? ⟨(w.heap.size + 1), 6, none⟩ = some (.bool pass) := A1_1.c 6 (of_decide_eq_true rfl)
          have cs_7 : w1.cell? ⟨(w.heap.size + 1), 7, none⟩ = some (.int .i64 o) := A1_1.c 7 (of_decide_eq_true rfl)
          have cz_0 : w1.cell? ⟨(w.heap.size + 1 + 1), 0, none⟩ = some (.int .i64 0) := A2_1.c 0 (of_decide_eq_true rfl)
          have gz_0 := A2_1.f 0 (of_decide_eq_true rfl)
          have cz_1 : w1.cell? ⟨(w.heap.size + 1 + 1), 1, none⟩ = some (.int .i64 0) := A2_1.c 1 (of_decide_eq_true rfl)
          have gz_1 := A2_1.f 1 (of_decide_eq_true rfl)
          have cz_2 : w1.cell? ⟨(w.heap.size + 1 + 1), 2, none⟩ = some (.int .i64 0) := A2_1.c 2 (of_decide_eq_true rfl)
          have gz_2 := A2_1.f 2 (of_decide_eq_true rfl)
          have cz_3 : w1.cell? ⟨(w.heap.size + 1 + 1), 3, none⟩ = some (.int .i64 0) := A2_1.c 3 (of_decide_eq_true rfl)
          have gz_3 := A2_1.f 3 (of_decide_eq_true rfl)
          have cz_4 : w1.cell? ⟨(w.heap.size + 1 + 1), 4, none⟩ = some (.int .i64 0) := A2_1.c 4 (of_decide_eq_true rfl)
          have gz_4 := A2_1.f 4 (of_decide_eq_true rfl)
          have cz_5 : w1.cell? ⟨(w.heap.size + 1 + 1), 5, none⟩ = some (.int .i64 0) := A2_1.c 5 (of_decide_eq_true rfl)
          have gz_5 := A2_1.f 5 (of_decide_eq_true rfl)
          have l1 := A2_1.lies
          go_wp2_with (with_reducible refine post_stop ?_)
          have A9 := (((((((A2_1.new w.heap.size 2 (by omega) (.int .i64 (cntS g false))).put 0 (of_decide_eq_true rfl) (.int .i64 m) [.int .i64 m, .int .i64 0, .int .i64 0, .int .i64 0, .int .i64 0, .int .i64 0] rfl).put 1 (of_decide_eq_true rfl) (.int .i64 c) [.int .i64 m, .int .i64 c, .int .i64 0, .int .i64 0, .int .i64 0, .int .i64 0] rfl).put 2 (of_decide_eq_true rfl) (.int .i64 (cntS g false)) [.int .i64 m, .int .i64 c, .int .i64 (cntS g false), .int .i64 0, .int .i64 0, .int .i64 0] rfl).put 3 (of_decide_eq_true rfl) (.int .i64 i) [.int .i64 m, .int .i64 c, .int .i64 (cntS g false), .int .i64 i, .int .i64 0, .int .i64 0] rfl).put 4 (of_decide_eq_true rfl) (.int .i64 l) [.int .i64 m, .int .i64 c, .int .i64 (cntS g false), .int .i64 i, .int .i64 l, .int .i64 0] rfl).put 5 (of_decide_eq_true rfl) (.int .i64 f) [.int .i64 m, .int .i64 c, .int .i64 (cntS g false), .int .i64 i, .int .i64 l, .int .i64 f] rfl)
          have K9 := (bel_new (bel_new (bel_new (bel_new (bel_new (bel_new (bel_new K1 w.heap.size 2 (by omega) (.int .i64 (cntS g false))) (w.heap.size + 1 + 1) 0 (by omega) (.int .i64 m)) (w.heap.size + 1 + 1) 1 (by omega) (.int .i64 c)) (w.heap.size + 1 + 1) 2 (by omega) (.int .i64 (cntS g false))) (w.heap.size + 1 + 1) 3 (by omega) (.int .i64 i)) (w.heap.size + 1 + 1) 4 (by omega) (.int .i64 l)) (w.heap.size + 1 + 1) 5 (by omega) (.int .i64 f))
          clear cp_0 gp_0 cp_1 gp_1 cp_2 gp_2 cp_3 gp_3 cp_4 gp_4 cp_5 gp_5 cs_0 cs_1 cs_2 cs_3 cs_4 cs_5 cs_6 cs_7 cz_0 gz_0 cz_1 gz_1 cz_2 gz_2 cz_3 gz_3 cz_4 gz_4 cz_5 gz_5
          exact ⟨bodyPost_ret (v := .agg #[.int .i64 m, .int .i64 c, .int .i64 (cntS g false), .int .i64 i, .int .i64 l, .int .i64 f]) (results_arr Try.results16 A9 rfl (by kernel_rfl) (by kernel_rfl)) rfl ⟨by rw [HS.out], K9⟩⟩
        · by_cases t : 2 ≤ cntS g true
          · have HS : Hid (plV (coaS ⟨m, c, g, i, l, f⟩ ⟨gap, true, true, true, true, bad, pass, o⟩) = .agg #[.int .i64 2, .int .i64 0, .int .i64 0, .int .i64 0, .int .i64 0, .int .i64 f]) := by show plV _ = _; first | exact congrArg plV (if_pos t) | rfl | exact congrArg plV (if_neg t) | exact congrArg plV (if_neg u) | exact congrArg plV (if_pos u)
            go_enter Try.func16, Try.ntmps16
            go_wp2_with fail
            refine (counted_any g true _ hg).mono ?_
            rintro e w1 ⟨rfl, b1⟩
            have A0_1 : Arr w.heap.size [.int .i64 m, .int .i64 c, .int .i64 g, .int .i64 i, .int .i64 l, .int .i64 f] w1 := (((Arr_at _ w.heap.size [.int .i64 m, .int .i64 c, .int .i64 g, .int .i64 i, .int .i64 l, .int .i64 f] 23 (by simp)).alloc _).alloc _).below b1
            have A1_1 : Arr (w.heap.size + 1) [.bool gap, .bool true, .bool true, .bool true, .bool true, .bool bad, .bool pass, .int .i64 o] w1 := ((Arr_at _ (w.heap.size + 1) [.bool gap, .bool true, .bool true, .bool true, .bool true, .bool bad, .bool pass, .int .i64 o] 25 (by simp)).alloc _).below b1
            have A2_1 : Arr (w.heap.size + 1 + 1) [.int .i64 0, .int .i64 0, .int .i64 0, .int .i64 0, .int .i64 0, .int .i64 0] w1 := (Arr_at _ (w.heap.size + 1 + 1) [.int .i64 0, .int .i64 0, .int .i64 0, .int .i64 0, .int .i64 0, .int .i64 0] 23 (by simp)).below b1
            have K1 : Below w.heap.size w w1 := bel_then (bel_al (bel_al (bel_al (Below.refl w.heap.size w) _) _) _) b1
            clear b1
            have cp_0 : w1.cell? ⟨w.heap.size, 0, none⟩ = some (.int .i64 m) := A0_1.c 0 (of_decide_eq_true rfl)
            have gp_0 := A0_1.f 0 (of_decide_eq_true rfl)
            have cp_1 : w1.cell? ⟨w.heap.size, 1, none⟩ = some (.int .i64 c) := A0_1.c 1 (of_decide_eq_true rfl)
            have gp_1 := A0_1.f 1 (of_decide_eq_true rfl)
            have cp_2 : w1.cell? ⟨w.heap.size, 2, none⟩ = some (.int .i64 g) := A0_1.c 2 (of_decide_eq_true rfl)
            have gp_2 := A0_1.f 2 (of_decide_eq_true rfl)
            have cp_3 : w1.cell? ⟨w.heap.size, 3, none⟩ = some (.int .i64 i) := A0_1.c 3 (of_decide_eq_true rfl)
            have gp_3 := A0_1.f 3 (of_decide_eq_true rfl)
            have cp_4 : w1.cell? ⟨w.heap.size, 4, none⟩ = some (.int .i64 l) := A0_1.c 4 (of_decide_eq_true rfl)
            have gp_4 := A0_1.f 4 (of_decide_eq_true rfl)
            have cp_5 : w1.cell? ⟨w.heap.size, 5, none⟩ = some (.int .i64 f) := A0_1.c 5 (of_decide_eq_true rfl)
            have gp_5 := A0_1.f 5 (of_decide_eq_true rfl)
            have cs_0 : w1.cell? ⟨(w.heap.size + 1), 0, none⟩ = some (.bool gap) := A1_1.c 0 (of_decide_eq_true rfl)
            have cs_1 : w1.cell? ⟨(w.heap.size + 1), 1, none⟩ = some (.bool true) := A1_1.c 1 (of_decide_eq_true rfl)
            have cs_2 : w1.cell? ⟨(w.heap.size + 1), 2, none⟩ = some (.bool true) := A1_1.c 2 (of_decide_eq_true rfl)
            have cs_3 : w1.cell? ⟨(w.heap.size + 1), 3, none⟩ = some (.bool true) := A1_1.c 3 (of_decide_eq_true rfl)
            have cs_4 : w1.cell? ⟨(w.heap.size + 1), 4, none⟩ = some (.bool true) := A1_1.c 4 (of_decide_eq_true rfl)
            have cs_5 : w1.cell? ⟨(w.heap.size + 1), 5, none⟩ = some (.bool bad) := A1_1.c 5 (of_decide_eq_true rfl)
            have cs_6 : w1.cell? ⟨(w.heap.size + 1), 6, none⟩ = some (.bool pass) := A1_1.c 6 (of_decide_eq_true rfl)
            have cs_7 : w1.cell? ⟨(w.heap.size + 1), 7, none⟩ = some (.int .i64 o) := A1_1.c 7 (of_decide_eq_true rfl)
            have cz_0 : w1.cell? ⟨(w.heap.size + 1 + 1), 0, none⟩ = some (.int .i64 0) := A2_1.c 0 (of_decide_eq_true rfl)
            have gz_0 := A2_1.f 0 (of_decide_eq_true rfl)
            have cz_1 : w1.cell? ⟨(w.heap.size + 1 + 1), 1, none⟩ = some (.int .i64 0) := A2_1.c 1 (of_decide_eq_true rfl)
            have gz_1 := A2_1.f 1 (of_decide_eq_true rfl)
            have cz_2 : w1.cell? ⟨(w.heap.size + 1 + 1), 2, none⟩ = some (.int .i64 0) := A2_1.c 2 (of_decide_eq_true rfl)
            have gz_2 := A2_1.f 2 (of_decide_eq_true rfl)
            have cz_3 : w1.cell? ⟨(w.heap.size + 1 + 1), 3, none⟩ = some (.int .i64 0) := A2_1.c 3 (of_decide_eq_true rfl)
            have gz_3 := A2_1.f 3 (of_decide_eq_true rfl)
            have cz_4 : w1.cell? ⟨(w.heap.size + 1 + 1), 4, none⟩ = some (.int .i64 0) := A2_1.c 4 (of_decide_eq_true rfl)
            have gz_4 := A2_1.f 4 (of_decide_eq_true rfl)
            have cz_5 : w1.cell? ⟨(w.heap.size + 1 + 1), 5, none⟩ = some (.int .i64 0) := A2_1.c 5 (of_decide_eq_true rfl)
            have gz_5 := A2_1.f 5 (of_decide_eq_true rfl)
            have l1 := A2_1.lies
            go_wp2_with fail
            refine (goTo_any 2 m c (cntS g true) i l f _).mono ?_
            rintro e w2 ⟨rfl, b2⟩
            have A0_2 : Arr w.heap.size [.int .i64 m, .int .i64 c, .int .i64 (cntS g true), .int .i64 i, .int .i64 l, .int .i64 f] w2 := (A0_1.put 2 (of_decide_eq_true rfl) (.int .i64 (cntS g true)) [.int .i64 m, .int .i64 c, .int .i64 (cntS g true), .int .i64 i, .int .i64 l, .int .i64 f] rfl).below b2
            have A1_2 : Arr (w.heap.size + 1) [.bool gap, .bool true, .bool true, .bool true, .bool true, .bool bad, .bool pass, .int .i64 o] w2 := (A1_1.new w.heap.size 2 (by omega) (.int .i64 (cntS g true))).below b2
            have A2_2 : Arr (w.heap.size + 1 + 1) [.int .i64 0, .int .i64 0, .int .i64 0, .int .i64 0, .int .i64 0, .int .i64 0] w2 := (A2_1.new w.heap.size 2 (by omega) (.int .i64 (cntS g true))).below b2
            have K2 : Below w.heap.size w w2 := bel_then (bel_new K1 w.heap.size 2 (by omega) (.int .i64 (cntS g true))) b2
            clear A0_1 A1_1 A2_1 K1 cp_0 gp_0 cp_1 gp_1 cp_2 gp_2 cp_3 gp_3 cp_4 gp_4 cp_5 gp_5 cs_0 cs_1 cs_2 cs_3 cs_4 cs_5 cs_6 cs_7 cz_0 gz_0 cz_1 gz_1 cz_2 gz_2 cz_3 gz_3 cz_4 gz_4 cz_5 gz_5 l1
            clear b2
            have cp_0 : w2.cell? ⟨w.heap.size, 0, none⟩ = some (.int .i64 m) := A0_2.c 0 (of_decide_eq_true rfl)
            have gp_0 := A0_2.f 0 (of_decide_eq_true rfl)
            have cp_1 : w2.cell? ⟨w.heap.size, 1, none⟩ = some (.int .i64 c) := A0_2.c 1 (of_decide_eq_true rfl)
            have gp_1 := A0_2.f 1 (of_decide_eq_true rfl)
            have cp_2 : w2.cell? ⟨w.heap.size, 2, none⟩ = some (.int .i64 (cntS g true)) := A0_2.c 2 (of_decide_eq_true rfl)
            have gp_2 := A0_2.f 2 (of_decide_eq_true rfl)
            have cp_3 : w2.cell? ⟨w.heap.size, 3, none⟩ = some (.int .i64 i) := A0_2.c 3 (of_decide_eq_true rfl)
            have gp_3 := A0_2.f 3 (of_decide_eq_true rfl)
            have cp_4 : w2.cell? ⟨w.heap.size, 4, none⟩ = some (.int .i64 l) := A0_2.c 4 (of_decide_eq_true rfl)
            have gp_4 := A0_2.f 4 (of_decide_eq_true rfl)
            have cp_5 : w2.cell? ⟨w.heap.size, 5, none⟩ = some (.int .i64 f) := A0_2.c 5 (of_decide_eq_true rfl)
            have gp_5 := A0_2.f 5 (of_decide_eq_true rfl)
            have cs_0 : w2.cell? ⟨(w.heap.size + 1), 0, none⟩ = some (.bool gap) := A1_2.c 0 (of_decide_eq_true rfl)
            have cs_1 : w2.cell? ⟨(w.heap.size + 1), 1, none⟩ = some (.bool true) := A1_2.c 1 (of_decide_eq_true rfl)
            have cs_2 : w2.cell? ⟨(w.heap.size + 1), 2, none⟩ = some (.bool true) := A1_2.c 2 (of_decide_eq_true rfl)
            have cs_3 : w2.cell? ⟨(w.heap.size + 1), 3, none⟩ = some (.bool true) := A1_2.c 3 (of_decide_eq_true rfl)
            have cs_4 : w2.cell? ⟨(w.heap.size + 1), 4, none⟩ = some (.bool true) := A1_2.c 4 (of_decide_eq_true rfl)
            have cs_5 : w2.cell? ⟨(w.heap.size + 1), 5, none⟩ = some (.bool bad) := A1_2.c 5 (of_decide_eq_true rfl)
            have cs_6 : w2.cell? ⟨(w.heap.size + 1), 6, none⟩ = some (.bool pass) := A1_2.c 6 (of_decide_eq_true rfl)
            have cs_7 : w2.cell? ⟨(w.heap.size + 1), 7, none⟩ = some (.int .i64 o) := A1_2.c 7 (of_decide_eq_true rfl)
            have cz_0 : w2.cell? ⟨(w.heap.size + 1 + 1), 0, none⟩ = some (.int .i64 0) := A2_2.c 0 (of_decide_eq_true rfl)
            have gz_0 := A2_2.f 0 (of_decide_eq_true rfl)
            have cz_1 : w2.cell? ⟨(w.heap.size + 1 + 1), 1, none⟩ = some (.int .i64 0) := A2_2.c 1 (of_decide_eq_true rfl)
            have gz_1 := A2_2.f 1 (of_decide_eq_true rfl)
            have cz_2 : w2.cell? ⟨(w.heap.size + 1 + 1), 2, none⟩ = some (.int .i64 0) := A2_2.c 2 (of_decide_eq_true rfl)
            have gz_2 := A2_2.f 2 (of_decide_eq_true rfl)
            have cz_3 : w2.cell? ⟨(w.heap.size + 1 + 1), 3, none⟩ = some (.int .i64 0) := A2_2.c 3 (of_decide_eq_true rfl)
            have gz_3 := A2_2.f 3 (of_decide_eq_true rfl)
            have cz_4 : w2.cell? ⟨(w.heap.size + 1 + 1), 4, none⟩ = some (.int .i64 0) := A2_2.c 4 (of_decide_eq_true rfl)
            have gz_4 := A2_2.f 4 (of_decide_eq_true rfl)
            have cz_5 : w2.cell? ⟨(w.heap.size + 1 + 1), 5, none⟩ = some (.int .i64 0) := A2_2.c 5 (of_decide_eq_true rfl)
            have gz_5 := A2_2.f 5 (of_decide_eq_true rfl)
            have l2 := A2_2.lies
            go_wp2_with (with_reducible refine post_stop ?_)
            have A9 := ((((((A2_2.put 0 (of_decide_eq_true rfl) (.int .i64 2) [.int .i64 2, .int .i64 0, .int .i64 0, .int .i64 0, .int .i64 0, .int .i64 0] rfl).put 1 (of_decide_eq_true rfl) (.int .i64 0) [.int .i64 2, .int .i64 0, .int .i64 0, .int .i64 0, .int .i64 0, .int .i64 0] rfl).put 2 (of_decide_eq_true rfl) (.int .i64 0) [.int .i64 2, .int .i64 0, .int .i64 0, .int .i64 0, .int .i64 0, .int .i64 0] rfl).put 3 (of_decide_eq_true rfl) (.int .i64 0) [.int .i64 2, .int .i64 0, .int .i64 0, .int .i64 0, .int .i64 0, .int .i64 0] rfl).put 4 (of_decide_eq_true rfl) (.int .i64 0) [.int .i64 2, .int .i64 0, .int .i64 0, .int .i64 0, .int .i64 0, .int .i64 0] rfl).put 5 (of_decide_eq_true rfl) (.int .i64 f) [.int .i64 2, .int .i64 0, .int .i64 0, .int .i64 0, .int .i64 0, .int .i64 f] rfl)
            have K9 := (bel_new (bel_new (bel_new (bel_new (bel_new (bel_new K2 (w.heap.size + 1 + 1) 0 (by omega) (.int .i64 2)) (w.heap.size + 1 + 1) 1 (by omega) (.int .i64 0)) (w.heap.size + 1 + 1) 2 (by omega) (.int .i64 0)) (w.heap.size + 1 + 1) 3 (by omega) (.int .i64 0)) (w.heap.size + 1 + 1) 4 (by omega) (.int .i64 0)) (w.heap.size + 1 + 1) 5 (by omega) (.int .i64 f))
            clear cp_0 gp_0 cp_1 gp_1 cp_2 gp_2 cp_3 gp_3 cp_4 gp_4 cp_5 gp_5 cs_0 cs_1 cs_2 cs_3 cs_4 cs_5 cs_6 cs_7 cz_0 gz_0 cz_1 gz_1 cz_2 gz_2 cz_3 gz_3 cz_4 gz_4 cz_5 gz_5
            exact ⟨bodyPost_ret (v := .agg #[.int .i64 2, .int .i64 0, .int .i64 0, .int .i64 0, .int .i64 0, .int .i64 f]) (results_arr Try.results16 A9 rfl (by kernel_rfl) (by kernel_rfl)) rfl ⟨by rw [HS.out], K9⟩⟩
          · have HS : Hid (plV (coaS ⟨m, c, g, i, l, f⟩ ⟨gap, true, true, true, true, bad, pass, o⟩) = .agg #[.int .i64 m, .int .i64 c, .int .i64 (cntS g true), .int .i64 i, .int .i64 l, .int .i64 f]) := by show plV _ = _; first | exact congrArg plV (if_neg t) | rfl | exact congrArg plV (if_neg t) | exact congrArg plV (if_neg u) | exact congrArg plV (if_pos u)
            go_enter Try.func16, Try.ntmps16
            go_wp2_with fail
            refine (counted_any g true _ hg).mono ?_
            rintro e w1 ⟨rfl, b1⟩
            have A0_1 : Arr w.heap.size [.int .i64 m, .int .i64 c, .int .i64 g, .int .i64 i, .int .i64 l, .int .i64 f] w1 := (((Arr_at _ w.heap.size [.int .i64 m, .int .i64 c, .int .i64 g, .int .i64 i, .int .i64 l, .int .i64 f] 23 (by simp)).alloc _).alloc _).below b1
            have A1_1 : Arr (w.heap.size + 1) [.bool gap, .bool true, .bool true, .bool true, .bool true, .bool bad, .bool pass, .int .i64 o] w1 := ((Arr_at _ (w.heap.size + 1) [.bool gap, .bool true, .bool true, .bool true, .bool true, .bool bad, .bool pass, .int .i64 o] 25 (by simp)).alloc _).below b1
            have A2_1 : Arr (w.heap.size + 1 + 1) [.int .i64 0, .int .i64 0, .int .i64 0, .int .i64 0, .int .i64 0, .int .i64 0] w1 := (Arr_at _ (w.heap.size + 1 + 1) [.int .i64 0, .int .i64 0, .int .i64 0, .int .i64 0, .int .i64 0, .int .i64 0] 23 (by simp)).below b1
            have K1 : Below w.heap.size w w1 := bel_then (bel_al (bel_al (bel_al (Below.refl w.heap.size w) _) _) _) b1
            clear b1
            have cp_0 : w1.cell? ⟨w.heap.size, 0, none⟩ = some (.int .i64 m) := A0_1.c 0 (of_decide_eq_true rfl)
            have gp_0 := A0_1.f 0 (of_decide_eq_true rfl)
            have cp_1 : w1.cell? ⟨w.heap.size, 1, none⟩ = some (.int .i64 c) := A0_1.c 1 (of_decide_eq_true rfl)
            have gp_1 := A0_1.f 1 (of_decide_eq_true rfl)
            have cp_2 : w1.cell? ⟨w.heap.size, 2, none⟩ = some (.int .i64 g) := A0_1.c 2 (of_decide_eq_true rfl)
            have gp_2 := A0_1.f 2 (of_decide_eq_true rfl)
            have cp_3 : w1.cell? ⟨w.heap.size, 3, none⟩ = some (.int .i64 i) := A0_1.c 3 (of_decide_eq_true rfl)
            have gp_3 := A0_1.f 3 (of_decide_eq_true rfl)
            have cp_4 : w1.cell? ⟨w.heap.size, 4, none⟩ = some (.int .i64 l) := A0_1.c 4 (of_decide_eq_true rfl)
            have gp_4 := A0_1.f 4 (of_decide_eq_true rfl)
            have cp_5 : w1.cell? ⟨w.heap.size, 5, none⟩ = some (.int .i64 f) := A0_1.c 5 (of_decide_eq_true rfl)
            have gp_5 := A0_1.f 5 (of_decide_eq_true rfl)
            have cs_0 : w1.cell? ⟨(w.heap.size + 1), 0, none⟩ = some (.bool gap) := A1_1.c 0 (of_decide_eq_true rfl)
            have cs_1 : w1.cell? ⟨(w.heap.size + 1), 1, none⟩ = some (.bool true) := A1_1.c 1 (of_decide_eq_true rfl)
            have cs_2 : w1.cell? ⟨(w.heap.size + 1), 2, none⟩ = some (.bool true) := A1_1.c 2 (of_decide_eq_true rfl)
            have cs_3 : w1.cell? ⟨(w.heap.size + 1), 3, none⟩ = some (.bool true) := A1_1.c 3 (of_decide_eq_true rfl)
            have cs_4 : w1.cell? ⟨(w.heap.size + 1), 4, none⟩ = some (.bool true) := A1_1.c 4 (of_decide_eq_true rfl)
            have cs_5 : w1.cell? ⟨(w.heap.size + 1), 5, none⟩ = some (.bool bad) := A1_1.c 5 (of_decide_eq_true rfl)
            have cs_6 : w1.cell? ⟨(w.heap.size + 1), 6, none⟩ = some (.bool pass) := A1_1.c 6 (of_decide_eq_true rfl)
            have cs_7 : w1.cell? ⟨(w.heap.size + 1), 7, none⟩ = some (.int .i64 o) := A1_1.c 7 (of_decide_eq_true rfl)
            have cz_0 : w1.cell? ⟨(w.heap.size + 1 + 1), 0, none⟩ = some (.int .i64 0) := A2_1.c 0 (of_decide_eq_true rfl)
            have gz_0 := A2_1.f 0 (of_decide_eq_true rfl)
            have cz_1 : w1.cell? ⟨(w.heap.size + 1 + 1), 1, none⟩ = some (.int .i64 0) := A2_1.c 1 (of_decide_eq_true rfl)
            have gz_1 := A2_1.f 1 (of_decide_eq_true rfl)
            have cz_2 : w1.cell? ⟨(w.heap.size + 1 + 1), 2, none⟩ = some (.int .i64 0) := A2_1.c 2 (of_decide_eq_true rfl)
            have gz_2 := A2_1.f 2 (of_decide_eq_true rfl)
            have cz_3 : w1.cell? ⟨(w.heap.size + 1 + 1), 3, none⟩ = some (.int .i64 0) := A2_1.c 3 (of_decide_eq_true rfl)
            have gz_3 := A2_1.f 3 (of_decide_eq_true rfl)
            have cz_4 : w1.cell? ⟨(w.heap.size + 1 + 1), 4, none⟩ = some (.int .i64 0) := A2_1.c 4 (of_decide_eq_true rfl)
            have gz_4 := A2_1.f 4 (of_decide_eq_true rfl)
            have cz_5 : w1.cell? ⟨(w.heap.size + 1 + 1), 5, none⟩ = some (.int .i64 0) := A2_1.c 5 (of_decide_eq_true rfl)
            have gz_5 := A2_1.f 5 (of_decide_eq_true rfl)
            have l1 := A2_1.lies
            go_wp2_with (with_reducible refine post_stop ?_)
            have A9 := (((((((A2_1.new w.heap.size 2 (by omega) (.int .i64 (cntS g true))).put 0 (of_decide_eq_true rfl) (.int .i64 m) [.int .i64 m, .int .i64 0, .int .i64 0, .int .i64 0, .int .i64 0, .int .i64 0] rfl).put 1 (of_decide_eq_true rfl) (.int .i64 c) [.int .i64 m, .int .i64 c, .int .i64 0, .int .i64 0, .int .i64 0, .int .i64 0] rfl).put 2 (of_decide_eq_true rfl) (.int .i64 (cntS g true)) [.int .i64 m, .int .i64 c, .int .i64 (cntS g true), .int .i64 0, .int .i64 0, .int .i64 0] rfl).put 3 (of_decide_eq_true rfl) (.int .i64 i) [.int .i64 m, .int .i64 c, .int .i64 (cntS g true), .int .i64 i, .int .i64 0, .int .i64 0] rfl).put 4 (of_decide_eq_true rfl) (.int .i64 l) [.int .i64 m, .int .i64 c, .int .i64 (cntS g true), .int .i64 i, .int .i64 l, .int .i64 0] rfl).put 5 (of_decide_eq_true rfl) (.int .i64 f) [.int .i64 m, .int .i64 c, .int .i64 (cntS g true), .int .i64 i, .int .i64 l, .int .i64 f] rfl)
            have K9 := (bel_new (bel_new (bel_new (bel_new (bel_new (bel_new (bel_new K1 w.heap.size 2 (by omega) (.int .i64 (cntS g true))) (w.heap.size + 1 + 1) 0 (by omega) (.int .i64 m)) (w.heap.size + 1 + 1) 1 (by omega) (.int .i64 c)) (w.heap.size + 1 + 1) 2 (by omega) (.int .i64 (cntS g true))) (w.heap.size + 1 + 1) 3 (by omega) (.int .i64 i)) (w.heap.size + 1 + 1) 4 (by omega) (.int .i64 l)) (w.heap.size + 1 + 1) 5 (by omega) (.int .i64 f))
            clear cp_0 gp_0 cp_1 gp_1 cp_2 gp_2 cp_3 gp_3 cp_4 gp_4 cp_5 gp_5 cs_0 cs_1 cs_2 cs_3 cs_4 cs_5 cs_6 cs_7 cz_0 gz_0 cz_1 gz_1 cz_2 gz_2 cz_3 gz_3 cz_4 gz_4 cz_5 gz_5
            exact ⟨bodyPost_ret (v := .agg #[.int .i64 m, .int .i64 c, .int .i64 (cntS g true), .int .i64 i, .int .i64 l, .int .i64 f]) (results_arr Try.results16 A9 rfl (by kernel_rfl) (by kernel_rfl)) rfl ⟨by rw [HS.out], K9⟩⟩
set_option maxRecDepth 100000 in
set_option maxHeartbeats 4000000 in
theorem fin_any (c g i l f : Int) (gap gyro slow pair lit bad pass : Bool) (o : Int) (w : World) (hl : I64 l) (hi : I64 i) : Calls Try.prog 17 #[.agg #[.int .i64 2, .int .i64 c, .int .i64 g, .int .i64 i, .int .i64 l, .int .i64 f], .agg #[.bool gap, .bool gyro, .bool slow, .bool pair, .bool lit, .bool bad, .bool pass, .int .i64 o]] w fun e w' => e = .returned (plV (finS ⟨2, c, g, i, l, f⟩ ⟨gap, gyro, slow, pair, lit, bad, pass, o⟩)) ∧ Below w.heap.size w w' := by
  cases bad
  · cases gyro
    · by_cases t : 3 ≤ cntS l true
      · have HS : Hid (plV (finS ⟨2, c, g, i, l, f⟩ ⟨gap, false, slow, pair, lit, false, pass, o⟩) = .agg #[.int .i64 1, .int .i64 0, .int .i64 0, .int .i64 0, .int .i64 0, .int .i64 (bits .or .i64 f 2)]) := by show plV _ = _; first | exact congrArg plV (if_pos t) | rfl | exact congrArg plV (if_neg t) | exact congrArg plV (if_neg u) | exact congrArg plV (if_pos u)
        go_enter Try.func17, Try.ntmps17
        go_wp2_with fail
        refine (counted_any l true _ hl).mono ?_
        rintro e w1 ⟨rfl, b1⟩
        have A0_1 : Arr w.heap.size [.int .i64 2, .int .i64 c, .int .i64 g, .int .i64 i, .int .i64 l, .int .i64 f] w1 := (((Arr_at _ w.heap.size [.int .i64 2, .int .i64 c, .int .i64 g, .int .i64 i, .int .i64 l, .int .i64 f] 23 (by simp)).alloc _).alloc _).below b1
        have A1_1 : Arr (w.heap.size + 1) [.bool gap, .bool false, .bool slow, .bool pair, .bool lit, .bool false, .bool pass, .int .i64 o] w1 := ((Arr_at _ (w.heap.size + 1) [.bool gap, .bool false, .bool slow, .bool pair, .bool lit, .bool false, .bool pass, .int .i64 o] 25 (by simp)).alloc _).below b1
        have A2_1 : Arr (w.heap.size + 1 + 1) [.int .i64 0, .int .i64 0, .int .i64 0, .int .i64 0, .int .i64 0, .int .i64 0] w1 := (Arr_at _ (w.heap.size + 1 + 1) [.int .i64 0, .int .i64 0, .int .i64 0, .int .i64 0, .int .i64 0, .int .i64 0] 23 (by simp)).below b1
        have K1 : Below w.heap.size w w1 := bel_then (bel_al (bel_al (bel_al (Below.refl w.heap.size w) _) _) _) b1
        clear b1
        have cp_0 : w1.cell? ⟨w.heap.size, 0, none⟩ = some (.int .i64 2) := A0_1.c 0 (of_decide_eq_true rfl)
        have gp_0 := A0_1.f 0 (of_decide_eq_true rfl)
        have cp_1 : w1.cell? ⟨w.heap.size, 1, none⟩ = some (.int .i64 c) := A0_1.c 1 (of_decide_eq_true rfl)
        have gp_1 := A0_1.f 1 (of_decide_eq_true rfl)
        have cp_2 : w1.cell? ⟨w.heap.size, 2, none⟩ = some (.int .i64 g) := A0_1.c 2 (of_decide_eq_true rfl)
        have gp_2 := A0_1.f 2 (of_decide_eq_true rfl)
        have cp_3 : w1.cell? ⟨w.heap.size, 3, none⟩ = some (.int .i64 i) := A0_1.c 3 (of_decide_eq_true rfl)
        have gp_3 := A0_1.f 3 (of_decide_eq_true rfl)
        have cp_4 : w1.cell? ⟨w.heap.size, 4, none⟩ = some (.int .i64 l) := A0_1.c 4 (of_decide_eq_true rfl)
        have gp_4 := A0_1.f 4 (of_decide_eq_true rfl)
        have cp_5 : w1.cell? ⟨w.heap.size, 5, none⟩ = some (.int .i64 f) := A0_1.c 5 (of_decide_eq_true rfl)
        have gp_5 := A0_1.f 5 (of_decide_eq_true rfl)
        have cs_0 : w1.cell? ⟨(w.heap.size + 1), 0, none⟩ = some (.bool gap) := A1_1.c 0 (of_decide_eq_true rfl)
        have cs_1 : w1.cell? ⟨(w.heap.size + 1), 1, none⟩ = some (.bool false) := A1_1.c 1 (of_decide_eq_true rfl)
        have cs_2 : w1.cell? ⟨(w.heap.size + 1), 2, none⟩ = some (.bool slow) := A1_1.c 2 (of_decide_eq_true rfl)
        have cs_3 : w1.cell? ⟨(w.heap.size + 1), 3, none⟩ = some (.bool pair) := A1_1.c 3 (of_decide_eq_true rfl)
        have cs_4 : w1.cell? ⟨(w.heap.size + 1), 4, none⟩ = some (.bool lit) := A1_1.c 4 (of_decide_eq_true rfl)
        have cs_5 : w1.cell? ⟨(w.heap.size + 1), 5, none⟩ = some (.bool false) := A1_1.c 5 (of_decide_eq_true rfl)
        have cs_6 : w1.cell? ⟨(w.heap.size + 1), 6, none⟩ = some (.bool pass) := A1_1.c 6 (of_decide_eq_true rfl)
        have cs_7 : w1.cell? ⟨(w.heap.size + 1), 7, none⟩ = some (.int .i64 o) := A1_1.c 7 (of_decide_eq_true rfl)
        have cz_0 : w1.cell? ⟨(w.heap.size + 1 + 1), 0, none⟩ = some (.int .i64 0) := A2_1.c 0 (of_decide_eq_true rfl)
        have gz_0 := A2_1.f 0 (of_decide_eq_true rfl)
        have cz_1 : w1.cell? ⟨(w.heap.size + 1 + 1), 1, none⟩ = some (.int .i64 0) := A2_1.c 1 (of_decide_eq_true rfl)
        have gz_1 := A2_1.f 1 (of_decide_eq_true rfl)
        have cz_2 : w1.cell? ⟨(w.heap.size + 1 + 1), 2, none⟩ = some (.int .i64 0) := A2_1.c 2 (of_decide_eq_true rfl)
        have gz_2 := A2_1.f 2 (of_decide_eq_true rfl)
        have cz_3 : w1.cell? ⟨(w.heap.size + 1 + 1), 3, none⟩ = some (.int .i64 0) := A2_1.c 3 (of_decide_eq_true rfl)
        have gz_3 := A2_1.f 3 (of_decide_eq_true rfl)
        have cz_4 : w1.cell? ⟨(w.heap.size + 1 + 1), 4, none⟩ = some (.int .i64 0) := A2_1.c 4 (of_decide_eq_true rfl)
        have gz_4 := A2_1.f 4 (of_decide_eq_true rfl)
        have cz_5 : w1.cell? ⟨(w.heap.size + 1 + 1), 5, none⟩ = some (.int .i64 0) := A2_1.c 5 (of_decide_eq_true rfl)
        have gz_5 := A2_1.f 5 (of_decide_eq_true rfl)
        have l1 := A2_1.lies
        go_wp2_with fail
        refine (fail_any 2 2 c g i (cntS l true) f _ ⟨by decide, by decide⟩ ⟨by decide, by decide⟩ (by decide)).mono ?_
        rintro e w2 ⟨rfl, b2⟩
        have A0_2 : Arr w.heap.size [.int .i64 2, .int .i64 c, .int .i64 g, .int .i64 i, .int .i64 (cntS l true), .int .i64 f] w2 := (A0_1.put 4 (of_decide_eq_true rfl) (.int .i64 (cntS l true)) [.int .i64 2, .int .i64 c, .int .i64 g, .int .i64 i, .int .i64 (cntS l true), .int .i64 f] rfl).below b2
        have A1_2 : Arr (w.heap.size + 1) [.bool gap, .bool false, .bool slow, .bool pair, .bool lit, .bool false, .bool pass, .int .i64 o] w2 := (A1_1.new w.heap.size 4 (by omega) (.int .i64 (cntS l true))).below b2
        have A2_2 : Arr (w.heap.size + 1 + 1) [.int .i64 0, .int .i64 0, .int .i64 0, .int .i64 0, .int .i64 0, .int .i64 0] w2 := (A2_1.new w.heap.size 4 (by omega) (.int .i64 (cntS l true))).below b2
        have K2 : Below w.heap.size w w2 := bel_then (bel_new K1 w.heap.size 4 (by omega) (.int .i64 (cntS l true))) b2
        clear A0_1 A1_1 A2_1 K1 cp_0 gp_0 cp_1 gp_1 cp_2 gp_2 cp_3 gp_3 cp_4 gp_4 cp_5 gp_5 cs_0 cs_1 cs_2 cs_3 cs_4 cs_5 cs_6 cs_7 cz_0 gz_0 cz_1 gz_1 cz_2 gz_2 cz_3 gz_3 cz_4 gz_4 cz_5 gz_5 l1
        clear b2
        have cp_0 : w2.cell? ⟨w.heap.size, 0, none⟩ = some (.int .i64 2) := A0_2.c 0 (of_decide_eq_true rfl)
        have gp_0 := A0_2.f 0 (of_decide_eq_true rfl)
        have cp_1 : w2.cell? ⟨w.heap.size, 1, none⟩ = some (.int .i64 c) := A0_2.c 1 (of_decide_eq_true rfl)
        have gp_1 := A0_2.f 1 (of_decide_eq_true rfl)
        have cp_2 : w2.cell? ⟨w.heap.size, 2, none⟩ = some (.int .i64 g) := A0_2.c 2 (of_decide_eq_true rfl)
        have gp_2 := A0_2.f 2 (of_decide_eq_true rfl)
        have cp_3 : w2.cell? ⟨w.heap.size, 3, none⟩ = some (.int .i64 i) := A0_2.c 3 (of_decide_eq_true rfl)
        have gp_3 := A0_2.f 3 (of_decide_eq_true rfl)
        have cp_4 : w2.cell? ⟨w.heap.size, 4, none⟩ = some (.int .i64 (cntS l true)) := A0_2.c 4 (of_decide_eq_true rfl)
        have gp_4 := A0_2.f 4 (of_decide_eq_true rfl)
        have cp_5 : w2.cell? ⟨w.heap.size, 5, none⟩ = some (.int .i64 f) := A0_2.c 5 (of_decide_eq_true rfl)
        have gp_5 := A0_2.f 5 (of_decide_eq_true rfl)
        have cs_0 : w2.cell? ⟨(w.heap.size + 1), 0, none⟩ = some (.bool gap) := A1_2.c 0 (of_decide_eq_true rfl)
        have cs_1 : w2.cell? ⟨(w.heap.size + 1), 1, none⟩ = some (.bool false) := A1_2.c 1 (of_decide_eq_true rfl)
        have cs_2 : w2.cell? ⟨(w.heap.size + 1), 2, none⟩ = some (.bool slow) := A1_2.c 2 (of_decide_eq_true rfl)
        have cs_3 : w2.cell? ⟨(w.heap.size + 1), 3, none⟩ = some (.bool pair) := A1_2.c 3 (of_decide_eq_true rfl)
        have cs_4 : w2.cell? ⟨(w.heap.size + 1), 4, none⟩ = some (.bool lit) := A1_2.c 4 (of_decide_eq_true rfl)
        have cs_5 : w2.cell? ⟨(w.heap.size + 1), 5, none⟩ = some (.bool false) := A1_2.c 5 (of_decide_eq_true rfl)
        have cs_6 : w2.cell? ⟨(w.heap.size + 1), 6, none⟩ = some (.bool pass) := A1_2.c 6 (of_decide_eq_true rfl)
        have cs_7 : w2.cell? ⟨(w.heap.size + 1), 7, none⟩ = some (.int .i64 o) := A1_2.c 7 (of_decide_eq_true rfl)
        have cz_0 : w2.cell? ⟨(w.heap.size + 1 + 1), 0, none⟩ = some (.int .i64 0) := A2_2.c 0 (of_decide_eq_true rfl)
        have gz_0 := A2_2.f 0 (of_decide_eq_true rfl)
        have cz_1 : w2.cell? ⟨(w.heap.size + 1 + 1), 1, none⟩ = some (.int .i64 0) := A2_2.c 1 (of_decide_eq_true rfl)
        have gz_1 := A2_2.f 1 (of_decide_eq_true rfl)
        have cz_2 : w2.cell? ⟨(w.heap.size + 1 + 1), 2, none⟩ = some (.int .i64 0) := A2_2.c 2 (of_decide_eq_true rfl)
        have gz_2 := A2_2.f 2 (of_decide_eq_true rfl)
        have cz_3 : w2.cell? ⟨(w.heap.size + 1 + 1), 3, none⟩ = some (.int .i64 0) := A2_2.c 3 (of_decide_eq_true rfl)
        have gz_3 := A2_2.f 3 (of_decide_eq_true rfl)
        have cz_4 : w2.cell? ⟨(w.heap.size + 1 + 1), 4, none⟩ = some (.int .i64 0) := A2_2.c 4 (of_decide_eq_true rfl)
        have gz_4 := A2_2.f 4 (of_decide_eq_true rfl)
        have cz_5 : w2.cell? ⟨(w.heap.size + 1 + 1), 5, none⟩ = some (.int .i64 0) := A2_2.c 5 (of_decide_eq_true rfl)
        have gz_5 := A2_2.f 5 (of_decide_eq_true rfl)
        have l2 := A2_2.lies
        go_wp2_with (with_reducible refine post_stop ?_)
        have A9 := ((((((A2_2.put 0 (of_decide_eq_true rfl) (.int .i64 1) [.int .i64 1, .int .i64 0, .int .i64 0, .int .i64 0, .int .i64 0, .int .i64 0] rfl).put 1 (of_decide_eq_true rfl) (.int .i64 0) [.int .i64 1, .int .i64 0, .int .i64 0, .int .i64 0, .int .i64 0, .int .i64 0] rfl).put 2 (of_decide_eq_true rfl) (.int .i64 0) [.int .i64 1, .int .i64 0, .int .i64 0, .int .i64 0, .int .i64 0, .int .i64 0] rfl).put 3 (of_decide_eq_true rfl) (.int .i64 0) [.int .i64 1, .int .i64 0, .int .i64 0, .int .i64 0, .int .i64 0, .int .i64 0] rfl).put 4 (of_decide_eq_true rfl) (.int .i64 0) [.int .i64 1, .int .i64 0, .int .i64 0, .int .i64 0, .int .i64 0, .int .i64 0] rfl).put 5 (of_decide_eq_true rfl) (.int .i64 (bits .or .i64 f 2)) [.int .i64 1, .int .i64 0, .int .i64 0, .int .i64 0, .int .i64 0, .int .i64 (bits .or .i64 f 2)] rfl)
        have K9 := (bel_new (bel_new (bel_new (bel_new (bel_new (bel_new K2 (w.heap.size + 1 + 1) 0 (by omega) (.int .i64 1)) (w.heap.size + 1 + 1) 1 (by omega) (.int .i64 0)) (w.heap.size + 1 + 1) 2 (by omega) (.int .i64 0)) (w.heap.size + 1 + 1) 3 (by omega) (.int .i64 0)) (w.heap.size + 1 + 1) 4 (by omega) (.int .i64 0)) (w.heap.size + 1 + 1) 5 (by omega) (.int .i64 (bits .or .i64 f 2)))
        clear cp_0 gp_0 cp_1 gp_1 cp_2 gp_2 cp_3 gp_3 cp_4 gp_4 cp_5 gp_5 cs_0 cs_1 cs_2 cs_3 cs_4 cs_5 cs_6 cs_7 cz_0 gz_0 cz_1 gz_1 cz_2 gz_2 cz_3 gz_3 cz_4 gz_4 cz_5 gz_5
        exact ⟨bodyPost_ret (v := .agg #[.int .i64 1, .int .i64 0, .int .i64 0, .int .i64 0, .int .i64 0, .int .i64 (bits .or .i64 f 2)]) (results_arr Try.results17 A9 rfl (by kernel_rfl) (by kernel_rfl)) rfl ⟨by rw [HS.out], K9⟩⟩
      · cases pair
        · have HS : Hid (plV (finS ⟨2, c, g, i, l, f⟩ ⟨gap, false, slow, false, lit, false, pass, o⟩) = .agg #[.int .i64 2, .int .i64 c, .int .i64 g, .int .i64 i, .int .i64 (cntS l true), .int .i64 f]) := by show plV _ = _; first | exact congrArg plV (if_neg t) | rfl | exact congrArg plV (if_neg t) | exact congrArg plV (if_neg u) | exact congrArg plV (if_pos u)
          go_enter Try.func17, Try.ntmps17
          go_wp2_with fail
          refine (counted_any l true _ hl).mono ?_
          rintro e w1 ⟨rfl, b1⟩
          have A0_1 : Arr w.heap.size [.int .i64 2, .int .i64 c, .int .i64 g, .int .i64 i, .int .i64 l, .int .i64 f] w1 := (((Arr_at _ w.heap.size [.int .i64 2, .int .i64 c, .int .i64 g, .int .i64 i, .int .i64 l, .int .i64 f] 23 (by simp)).alloc _).alloc _).below b1
          have A1_1 : Arr (w.heap.size + 1) [.bool gap, .bool false, .bool slow, .bool false, .bool lit, .bool false, .bool pass, .int .i64 o] w1 := ((Arr_at _ (w.heap.size + 1) [.bool gap, .bool false, .bool slow, .bool false, .bool lit, .bool false, .bool pass, .int .i64 o] 25 (by simp)).alloc _).below b1
          have A2_1 : Arr (w.heap.size + 1 + 1) [.int .i64 0, .int .i64 0, .int .i64 0, .int .i64 0, .int .i64 0, .int .i64 0] w1 := (Arr_at _ (w.heap.size + 1 + 1) [.int .i64 0, .int .i64 0, .int .i64 0, .int .i64 0, .int .i64 0, .int .i64 0] 23 (by simp)).below b1
          have K1 : Below w.heap.size w w1 := bel_then (bel_al (bel_al (bel_al (Below.refl w.heap.size w) _) _) _) b1
          clear b1
          have cp_0 : w1.cell? ⟨w.heap.size, 0, none⟩ = some (.int .i64 2) := A0_1.c 0 (of_decide_eq_true rfl)
          have gp_0 := A0_1.f 0 (of_decide_eq_true rfl)
          have cp_1 : w1.cell? ⟨w.heap.size, 1, none⟩ = some (.int .i64 c) := A0_1.c 1 (of_decide_eq_true rfl)
          have gp_1 := A0_1.f 1 (of_decide_eq_true rfl)
          have cp_2 : w1.cell? ⟨w.heap.size, 2, none⟩ = some (.int .i64 g) := A0_1.c 2 (of_decide_eq_true rfl)
          have gp_2 := A0_1.f 2 (of_decide_eq_true rfl)
          have cp_3 : w1.cell? ⟨w.heap.size, 3, none⟩ = some (.int .i64 i) := A0_1.c 3 (of_decide_eq_true rfl)
          have gp_3 := A0_1.f 3 (of_decide_eq_true rfl)
          have cp_4 : w1.cell? ⟨w.heap.size, 4, none⟩ = some (.int .i64 l) := A0_1.c 4 (of_decide_eq_true rfl)
          have gp_4 := A0_1.f 4 (of_decide_eq_true rfl)
          have cp_5 : w1.cell? ⟨w.heap.size, 5, none⟩ = some (.int .i64 f) := A0_1.c 5 (of_decide_eq_true rfl)
          have gp_5 := A0_1.f 5 (of_decide_eq_true rfl)
          have cs_0 : w1.cell? ⟨(w.heap.size + 1), 0, none⟩ = some (.bool gap) := A1_1.c 0 (of_decide_eq_true rfl)
          have cs_1 : w1.cell? ⟨(w.heap.size + 1), 1, none⟩ = some (.bool false) := A1_1.c 1 (of_decide_eq_true rfl)
          have cs_2 : w1.cell? ⟨(w.heap.size + 1), 2, none⟩ = some (.bool slow) := A1_1.c 2 (of_decide_eq_true rfl)
          have cs_3 : w1.cell? ⟨(w.heap.size + 1), 3, none⟩ = some (.bool false) := A1_1.c 3 (of_decide_eq_true rfl)
          have cs_4 : w1.cell? ⟨(w.heap.size + 1), 4, none⟩ = some (.bool lit) := A1_1.c 4 (of_decide_eq_true rfl)
          have cs_5 : w1.cell? ⟨(w.heap.size + 1), 5, none⟩ = some (.bool false) := A1_1.c 5 (of_decide_eq_true rfl)
          have cs_6 : w1.cell? ⟨(w.heap.size + 1), 6, none⟩ = some (.bool pass) := A1_1.c 6 (of_decide_eq_true rfl)
          have cs_7 : w1.cell? ⟨(w.heap.size + 1), 7, none⟩ = some (.int .i64 o) := A1_1.c 7 (of_decide_eq_true rfl)
          have cz_0 : w1.cell? ⟨(w.heap.size + 1 + 1), 0, none⟩ = some (.int .i64 0) := A2_1.c 0 (of_decide_eq_true rfl)
          have gz_0 := A2_1.f 0 (of_decide_eq_true rfl)
          have cz_1 : w1.cell? ⟨(w.heap.size + 1 + 1), 1, none⟩ = some (.int .i64 0) := A2_1.c 1 (of_decide_eq_true rfl)
          have gz_1 := A2_1.f 1 (of_decide_eq_true rfl)
          have cz_2 : w1.cell? ⟨(w.heap.size + 1 + 1), 2, none⟩ = some (.int .i64 0) := A2_1.c 2 (of_decide_eq_true rfl)
          have gz_2 := A2_1.f 2 (of_decide_eq_true rfl)
          have cz_3 : w1.cell? ⟨(w.heap.size + 1 + 1), 3, none⟩ = some (.int .i64 0) := A2_1.c 3 (of_decide_eq_true rfl)
          have gz_3 := A2_1.f 3 (of_decide_eq_true rfl)
          have cz_4 : w1.cell? ⟨(w.heap.size + 1 + 1), 4, none⟩ = some (.int .i64 0) := A2_1.c 4 (of_decide_eq_true rfl)
          have gz_4 := A2_1.f 4 (of_decide_eq_true rfl)
          have cz_5 : w1.cell? ⟨(w.heap.size + 1 + 1), 5, none⟩ = some (.int .i64 0) := A2_1.c 5 (of_decide_eq_true rfl)
          have gz_5 := A2_1.f 5 (of_decide_eq_true rfl)
          have l1 := A2_1.lies
          go_wp2_with (with_reducible refine post_stop ?_)
          have A9 := (((((((A2_1.new w.heap.size 4 (by omega) (.int .i64 (cntS l true))).put 0 (of_decide_eq_true rfl) (.int .i64 2) [.int .i64 2, .int .i64 0, .int .i64 0, .int .i64 0, .int .i64 0, .int .i64 0] rfl).put 1 (of_decide_eq_true rfl) (.int .i64 c) [.int .i64 2, .int .i64 c, .int .i64 0, .int .i64 0, .int .i64 0, .int .i64 0] rfl).put 2 (of_decide_eq_true rfl) (.int .i64 g) [.int .i64 2, .int .i64 c, .int .i64 g, .int .i64 0, .int .i64 0, .int .i64 0] rfl).put 3 (of_decide_eq_true rfl) (.int .i64 i) [.int .i64 2, .int .i64 c, .int .i64 g, .int .i64 i, .int .i64 0, .int .i64 0] rfl).put 4 (of_decide_eq_true rfl) (.int .i64 (cntS l true)) [.int .i64 2, .int .i64 c, .int .i64 g, .int .i64 i, .int .i64 (cntS l true), .int .i64 0] rfl).put 5 (of_decide_eq_true rfl) (.int .i64 f) [.int .i64 2, .int .i64 c, .int .i64 g, .int .i64 i, .int .i64 (cntS l true), .int .i64 f] rfl)
          have K9 := (bel_new (bel_new (bel_new (bel_new (bel_new (bel_new (bel_new K1 w.heap.size 4 (by omega) (.int .i64 (cntS l true))) (w.heap.size + 1 + 1) 0 (by omega) (.int .i64 2)) (w.heap.size + 1 + 1) 1 (by omega) (.int .i64 c)) (w.heap.size + 1 + 1) 2 (by omega) (.int .i64 g)) (w.heap.size + 1 + 1) 3 (by omega) (.int .i64 i)) (w.heap.size + 1 + 1) 4 (by omega) (.int .i64 (cntS l true))) (w.heap.size + 1 + 1) 5 (by omega) (.int .i64 f))
          clear cp_0 gp_0 cp_1 gp_1 cp_2 gp_2 cp_3 gp_3 cp_4 gp_4 cp_5 gp_5 cs_0 cs_1 cs_2 cs_3 cs_4 cs_5 cs_6 cs_7 cz_0 gz_0 cz_1 gz_1 cz_2 gz_2 cz_3 gz_3 cz_4 gz_4 cz_5 gz_5
          exact ⟨bodyPost_ret (v := .agg #[.int .i64 2, .int .i64 c, .int .i64 g, .int .i64 i, .int .i64 (cntS l true), .int .i64 f]) (results_arr Try.results17 A9 rfl (by kernel_rfl) (by kernel_rfl)) rfl ⟨by rw [HS.out], K9⟩⟩
        · cases lit
          · have HS : Hid (plV (finS ⟨2, c, g, i, l, f⟩ ⟨gap, false, slow, true, false, false, pass, o⟩) = .agg #[.int .i64 2, .int .i64 c, .int .i64 g, .int .i64 i, .int .i64 (cntS l true), .int .i64 f]) := by show plV _ = _; first | exact congrArg plV (if_neg t) | rfl | exact congrArg plV (if_neg t) | exact congrArg plV (if_neg u) | exact congrArg plV (if_pos u)
            go_enter Try.func17, Try.ntmps17
            go_wp2_with fail
            refine (counted_any l true _ hl).mono ?_
            rintro e w1 ⟨rfl, b1⟩
            have A0_1 : Arr w.heap.size [.int .i64 2, .int .i64 c, .int .i64 g, .int .i64 i, .int .i64 l, .int .i64 f] w1 := (((Arr_at _ w.heap.size [.int .i64 2, .int .i64 c, .int .i64 g, .int .i64 i, .int .i64 l, .int .i64 f] 23 (by simp)).alloc _).alloc _).below b1
            have A1_1 : Arr (w.heap.size + 1) [.bool gap, .bool false, .bool slow, .bool true, .bool false, .bool false, .bool pass, .int .i64 o] w1 := ((Arr_at _ (w.heap.size + 1) [.bool gap, .bool false, .bool slow, .bool true, .bool false, .bool false, .bool pass, .int .i64 o] 25 (by simp)).alloc _).below b1
            have A2_1 : Arr (w.heap.size + 1 + 1) [.int .i64 0, .int .i64 0, .int .i64 0, .int .i64 0, .int .i64 0, .int .i64 0] w1 := (Arr_at _ (w.heap.size + 1 + 1) [.int .i64 0, .int .i64 0, .int .i64 0, .int .i64 0, .int .i64 0, .int .i64 0] 23 (by simp)).below b1
            have K1 : Below w.heap.size w w1 := bel_then (bel_al (bel_al (bel_al (Below.refl w.heap.size w) _) _) _) b1
            clear b1
            have cp_0 : w1.cell? ⟨w.heap.size, 0, none⟩ = some (.int .i64 2) := A0_1.c 0 (of_decide_eq_true rfl)
            have gp_0 := A0_1.f 0 (of_decide_eq_true rfl)
            have cp_1 : w1.cell? ⟨w.heap.size, 1, none⟩ = some (.int .i64 c) := A0_1.c 1 (of_decide_eq_true rfl)
            have gp_1 := A0_1.f 1 (of_decide_eq_true rfl)
            have cp_2 : w1.cell? ⟨w.heap.size, 2, none⟩ = some (.int .i64 g) := A0_1.c 2 (of_decide_eq_true rfl)
            have gp_2 := A0_1.f 2 (of_decide_eq_true rfl)
            have cp_3 : w1.cell? ⟨w.heap.size, 3, none⟩ = some (.int .i64 i) := A0_1.c 3 (of_decide_eq_true rfl)
            have gp_3 := A0_1.f 3 (of_decide_eq_true rfl)
            have cp_4 : w1.cell? ⟨w.heap.size, 4, none⟩ = some (.int .i64 l) := A0_1.c 4 (of_decide_eq_true rfl)
            have gp_4 := A0_1.f 4 (of_decide_eq_true rfl)
            have cp_5 : w1.cell? ⟨w.heap.size, 5, none⟩ = some (.int .i64 f) := A0_1.c 5 (of_decide_eq_true rfl)
            have gp_5 := A0_1.f 5 (of_decide_eq_true rfl)
            have cs_0 : w1.cell? ⟨(w.heap.size + 1), 0, none⟩ = some (.bool gap) := A1_1.c 0 (of_decide_eq_true rfl)
            have cs_1 : w1.cell? ⟨(w.heap.size + 1), 1, none⟩ = some (.bool false) := A1_1.c 1 (of_decide_eq_true rfl)
            have cs_2 : w1.cell? ⟨(w.heap.size + 1), 2, none⟩ = some (.bool slow) := A1_1.c 2 (of_decide_eq_true rfl)
            have cs_3 : w1.cell? ⟨(w.heap.size + 1), 3, none⟩ = some (.bool true) := A1_1.c 3 (of_decide_eq_true rfl)
            have cs_4 : w1.cell? ⟨(w.heap.size + 1), 4, none⟩ = some (.bool false) := A1_1.c 4 (of_decide_eq_true rfl)
            have cs_5 : w1.cell? ⟨(w.heap.size + 1), 5, none⟩ = some (.bool false) := A1_1.c 5 (of_decide_eq_true rfl)
            have cs_6 : w1.cell? ⟨(w.heap.size + 1), 6, none⟩ = some (.bool pass) := A1_1.c 6 (of_decide_eq_true rfl)
            have cs_7 : w1.cell? ⟨(w.heap.size + 1), 7, none⟩ = some (.int .i64 o) := A1_1.c 7 (of_decide_eq_true rfl)
            have cz_0 : w1.cell? ⟨(w.heap.size + 1 + 1), 0, none⟩ = some (.int .i64 0) := A2_1.c 0 (of_decide_eq_true rfl)
            have gz_0 := A2_1.f 0 (of_decide_eq_true rfl)
            have cz_1 : w1.cell? ⟨(w.heap.size + 1 + 1), 1, none⟩ = some (.int .i64 0) := A2_1.c 1 (of_decide_eq_true rfl)
            have gz_1 := A2_1.f 1 (of_decide_eq_true rfl)
            have cz_2 : w1.cell? ⟨(w.heap.size + 1 + 1), 2, none⟩ = some (.int .i64 0) := A2_1.c 2 (of_decide_eq_true rfl)
            have gz_2 := A2_1.f 2 (of_decide_eq_true rfl)
            have cz_3 : w1.cell? ⟨(w.heap.size + 1 + 1), 3, none⟩ = some (.int .i64 0) := A2_1.c 3 (of_decide_eq_true rfl)
            have gz_3 := A2_1.f 3 (of_decide_eq_true rfl)
            have cz_4 : w1.cell? ⟨(w.heap.size + 1 + 1), 4, none⟩ = some (.int .i64 0) := A2_1.c 4 (of_decide_eq_true rfl)
            have gz_4 := A2_1.f 4 (of_decide_eq_true rfl)
            have cz_5 : w1.cell? ⟨(w.heap.size + 1 + 1), 5, none⟩ = some (.int .i64 0) := A2_1.c 5 (of_decide_eq_true rfl)
            have gz_5 := A2_1.f 5 (of_decide_eq_true rfl)
            have l1 := A2_1.lies
            go_wp2_with (with_reducible refine post_stop ?_)
            have A9 := (((((((A2_1.new w.heap.size 4 (by omega) (.int .i64 (cntS l true))).put 0 (of_decide_eq_true rfl) (.int .i64 2) [.int .i64 2, .int .i64 0, .int .i64 0, .int .i64 0, .int .i64 0, .int .i64 0] rfl).put 1 (of_decide_eq_true rfl) (.int .i64 c) [.int .i64 2, .int .i64 c, .int .i64 0, .int .i64 0, .int .i64 0, .int .i64 0] rfl).put 2 (of_decide_eq_true rfl) (.int .i64 g) [.int .i64 2, .int .i64 c, .int .i64 g, .int .i64 0, .int .i64 0, .int .i64 0] rfl).put 3 (of_decide_eq_true rfl) (.int .i64 i) [.int .i64 2, .int .i64 c, .int .i64 g, .int .i64 i, .int .i64 0, .int .i64 0] rfl).put 4 (of_decide_eq_true rfl) (.int .i64 (cntS l true)) [.int .i64 2, .int .i64 c, .int .i64 g, .int .i64 i, .int .i64 (cntS l true), .int .i64 0] rfl).put 5 (of_decide_eq_true rfl) (.int .i64 f) [.int .i64 2, .int .i64 c, .int .i64 g, .int .i64 i, .int .i64 (cntS l true), .int .i64 f] rfl)
            have K9 := (bel_new (bel_new (bel_new (bel_new (bel_new (bel_new (bel_new K1 w.heap.size 4 (by omega) (.int .i64 (cntS l true))) (w.heap.size + 1 + 1) 0 (by omega) (.int .i64 2)) (w.heap.size + 1 + 1) 1 (by omega) (.int .i64 c)) (w.heap.size + 1 + 1) 2 (by omega) (.int .i64 g)) (w.heap.size + 1 + 1) 3 (by omega) (.int .i64 i)) (w.heap.size + 1 + 1) 4 (by omega) (.int .i64 (cntS l true))) (w.heap.size + 1 + 1) 5 (by omega) (.int .i64 f))
            clear cp_0 gp_0 cp_1 gp_1 cp_2 gp_2 cp_3 gp_3 cp_4 gp_4 cp_5 gp_5 cs_0 cs_1 cs_2 cs_3 cs_4 cs_5 cs_6 cs_7 cz_0 gz_0 cz_1 gz_1 cz_2 gz_2 cz_3 gz_3 cz_4 gz_4 cz_5 gz_5
            exact ⟨bodyPost_ret (v := .agg #[.int .i64 2, .int .i64 c, .int .i64 g, .int .i64 i, .int .i64 (cntS l true), .int .i64 f]) (results_arr Try.results17 A9 rfl (by kernel_rfl) (by kernel_rfl)) rfl ⟨by rw [HS.out], K9⟩⟩
          · cases pass
            · by_cases u : 5 ≤ cntS i true
              · have HS : Hid (plV (finS ⟨2, c, g, i, l, f⟩ ⟨gap, false, slow, true, true, false, false, o⟩) = .agg #[.int .i64 1, .int .i64 0, .int .i64 0, .int .i64 0, .int .i64 0, .int .i64 (bits .or .i64 f 8)]) := by show plV _ = _; first | exact congrArg plV ((if_neg t).trans (if_pos u)) | rfl | exact congrArg plV (if_neg t) | exact congrArg plV (if_neg u) | exact congrArg plV (if_pos u)
                go_enter Try.func17, Try.ntmps17
                go_wp2_with fail
                refine (counted_any l true _ hl).mono ?_
                rintro e w1 ⟨rfl, b1⟩
                have A0_1 : Arr w.heap.size [.int .i64 2, .int .i64 c, .int .i64 g, .int .i64 i, .int .i64 l, .int .i64 f] w1 := (((Arr_at _ w.heap.size [.int .i64 2, .int .i64 c, .int .i64 g, .int .i64 i, .int .i64 l, .int .i64 f] 23 (by simp)).alloc _).alloc _).below b1
                have A1_1 : Arr (w.heap.size + 1) [.bool gap, .bool false, .bool slow, .bool true, .bool true, .bool false, .bool false, .int .i64 o] w1 := ((Arr_at _ (w.heap.size + 1) [.bool gap, .bool false, .bool slow, .bool true, .bool true, .bool false, .bool false, .int .i64 o] 25 (by simp)).alloc _).below b1
                have A2_1 : Arr (w.heap.size + 1 + 1) [.int .i64 0, .int .i64 0, .int .i64 0, .int .i64 0, .int .i64 0, .int .i64 0] w1 := (Arr_at _ (w.heap.size + 1 + 1) [.int .i64 0, .int .i64 0, .int .i64 0, .int .i64 0, .int .i64 0, .int .i64 0] 23 (by simp)).below b1
                have K1 : Below w.heap.size w w1 := bel_then (bel_al (bel_al (bel_al (Below.refl w.heap.size w) _) _) _) b1
                clear b1
                have cp_0 : w1.cell? ⟨w.heap.size, 0, none⟩ = some (.int .i64 2) := A0_1.c 0 (of_decide_eq_true rfl)
                have gp_0 := A0_1.f 0 (of_decide_eq_true rfl)
                have cp_1 : w1.cell? ⟨w.heap.size, 1, none⟩ = some (.int .i64 c) := A0_1.c 1 (of_decide_eq_true rfl)
                have gp_1 := A0_1.f 1 (of_decide_eq_true rfl)
                have cp_2 : w1.cell? ⟨w.heap.size, 2, none⟩ = some (.int .i64 g) := A0_1.c 2 (of_decide_eq_true rfl)
                have gp_2 := A0_1.f 2 (of_decide_eq_true rfl)
                have cp_3 : w1.cell? ⟨w.heap.size, 3, none⟩ = some (.int .i64 i) := A0_1.c 3 (of_decide_eq_true rfl)
                have gp_3 := A0_1.f 3 (of_decide_eq_true rfl)
                have cp_4 : w1.cell? ⟨w.heap.size, 4, none⟩ = some (.int .i64 l) := A0_1.c 4 (of_decide_eq_true rfl)
                have gp_4 := A0_1.f 4 (of_decide_eq_true rfl)
                have cp_5 : w1.cell? ⟨w.heap.size, 5, none⟩ = some (.int .i64 f) := A0_1.c 5 (of_decide_eq_true rfl)
                have gp_5 := A0_1.f 5 (of_decide_eq_true rfl)
                have cs_0 : w1.cell? ⟨(w.heap.size + 1), 0, none⟩ = some (.bool gap) := A1_1.c 0 (of_decide_eq_true rfl)
                have cs_1 : w1.cell? ⟨(w.heap.size + 1), 1, none⟩ = some (.bool false) := A1_1.c 1 (of_decide_eq_true rfl)
                have cs_2 : w1.cell? ⟨(w.heap.size + 1), 2, none⟩ = some (.bool slow) := A1_1.c 2 (of_decide_eq_true rfl)
                have cs_3 : w1.cell? ⟨(w.heap.size + 1), 3, none⟩ = some (.bool true) := A1_1.c 3 (of_decide_eq_true rfl)
                have cs_4 : w1.cell? ⟨(w.heap.size + 1), 4, none⟩ = some (.bool true) := A1_1.c 4 (of_decide_eq_true rfl)
                have cs_5 : w1.cell? ⟨(w.heap.size + 1), 5, none⟩ = some (.bool false) := A1_1.c 5 (of_decide_eq_true rfl)
                have cs_6 : w1.cell? ⟨(w.heap.size + 1), 6, none⟩ = some (.bool false) := A1_1.c 6 (of_decide_eq_true rfl)
                have cs_7 : w1.cell? ⟨(w.heap.size + 1), 7, none⟩ = some (.int .i64 o) := A1_1.c 7 (of_decide_eq_true rfl)
                have cz_0 : w1.cell? ⟨(w.heap.size + 1 + 1), 0, none⟩ = some (.int .i64 0) := A2_1.c 0 (of_decide_eq_true rfl)
                have gz_0 := A2_1.f 0 (of_decide_eq_true rfl)
                have cz_1 : w1.cell? ⟨(w.heap.size + 1 + 1), 1, none⟩ = some (.int .i64 0) := A2_1.c 1 (of_decide_eq_true rfl)
                have gz_1 := A2_1.f 1 (of_decide_eq_true rfl)
                have cz_2 : w1.cell? ⟨(w.heap.size + 1 + 1), 2, none⟩ = some (.int .i64 0) := A2_1.c 2 (of_decide_eq_true rfl)
                have gz_2 := A2_1.f 2 (of_decide_eq_true rfl)
                have cz_3 : w1.cell? ⟨(w.heap.size + 1 + 1), 3, none⟩ = some (.int .i64 0) := A2_1.c 3 (of_decide_eq_true rfl)
                have gz_3 := A2_1.f 3 (of_decide_eq_true rfl)
                have cz_4 : w1.cell? ⟨(w.heap.size + 1 + 1), 4, none⟩ = some (.int .i64 0) := A2_1.c 4 (of_decide_eq_true rfl)
                have gz_4 := A2_1.f 4 (of_decide_eq_true rfl)
                have cz_5 : w1.cell? ⟨(w.heap.size + 1 + 1), 5, none⟩ = some (.int .i64 0) := A2_1.c 5 (of_decide_eq_true rfl)
                have gz_5 := A2_1.f 5 (of_decide_eq_true rfl)
                have l1 := A2_1.lies
                go_wp2_with fail
                refine (counted_any i true _ hi).mono ?_
                rintro e w2 ⟨rfl, b2⟩
                have A0_2 : Arr w.heap.size [.int .i64 2, .int .i64 c, .int .i64 g, .int .i64 i, .int .i64 (cntS l true), .int .i64 f] w2 := (A0_1.put 4 (of_decide_eq_true rfl) (.int .i64 (cntS l true)) [.int .i64 2, .int .i64 c, .int .i64 g, .int .i64 i, .int .i64 (cntS l true), .int .i64 f] rfl).below b2
                have A1_2 : Arr (w.heap.size + 1) [.bool gap, .bool false, .bool slow, .bool true, .bool true, .bool false, .bool false, .int .i64 o] w2 := (A1_1.new w.heap.size 4 (by omega) (.int .i64 (cntS l true))).below b2
                have A2_2 : Arr (w.heap.size + 1 + 1) [.int .i64 0, .int .i64 0, .int .i64 0, .int .i64 0, .int .i64 0, .int .i64 0] w2 := (A2_1.new w.heap.size 4 (by omega) (.int .i64 (cntS l true))).below b2
                have K2 : Below w.heap.size w w2 := bel_then (bel_new K1 w.heap.size 4 (by omega) (.int .i64 (cntS l true))) b2
                clear A0_1 A1_1 A2_1 K1 cp_0 gp_0 cp_1 gp_1 cp_2 gp_2 cp_3 gp_3 cp_4 gp_4 cp_5 gp_5 cs_0 cs_1 cs_2 cs_3 cs_4 cs_5 cs_6 cs_7 cz_0 gz_0 cz_1 gz_1 cz_2 gz_2 cz_3 gz_3 cz_4 gz_4 cz_5 gz_5 l1
                clear b2
                have cp_0 : w2.cell? ⟨w.heap.size, 0, none⟩ = some (.int .i64 2) := A0_2.c 0 (of_decide_eq_true rfl)
                have gp_0 := A0_2.f 0 (of_decide_eq_true rfl)
                have cp_1 : w2.cell? ⟨w.heap.size, 1, none⟩ = some (.int .i64 c) := A0_2.c 1 (of_decide_eq_true rfl)
                have gp_1 := A0_2.f 1 (of_decide_eq_true rfl)
                have cp_2 : w2.cell? ⟨w.heap.size, 2, none⟩ = some (.int .i64 g) := A0_2.c 2 (of_decide_eq_true rfl)
                have gp_2 := A0_2.f 2 (of_decide_eq_true rfl)
                have cp_3 : w2.cell? ⟨w.heap.size, 3, none⟩ = some (.int .i64 i) := A0_2.c 3 (of_decide_eq_true rfl)
                have gp_3 := A0_2.f 3 (of_decide_eq_true rfl)
                have cp_4 : w2.cell? ⟨w.heap.size, 4, none⟩ = some (.int .i64 (cntS l true)) := A0_2.c 4 (of_decide_eq_true rfl)
                have gp_4 := A0_2.f 4 (of_decide_eq_true rfl)
                have cp_5 : w2.cell? ⟨w.heap.size, 5, none⟩ = some (.int .i64 f) := A0_2.c 5 (of_decide_eq_true rfl)
                have gp_5 := A0_2.f 5 (of_decide_eq_true rfl)
                have cs_0 : w2.cell? ⟨(w.heap.size + 1), 0, none⟩ = some (.bool gap) := A1_2.c 0 (of_decide_eq_true rfl)
                have cs_1 : w2.cell? ⟨(w.heap.size + 1), 1, none⟩ = some (.bool false) := A1_2.c 1 (of_decide_eq_true rfl)
                have cs_2 : w2.cell? ⟨(w.heap.size + 1), 2, none⟩ = some (.bool slow) := A1_2.c 2 (of_decide_eq_true rfl)
                have cs_3 : w2.cell? ⟨(w.heap.size + 1), 3, none⟩ = some (.bool true) := A1_2.c 3 (of_decide_eq_true rfl)
                have cs_4 : w2.cell? ⟨(w.heap.size + 1), 4, none⟩ = some (.bool true) := A1_2.c 4 (of_decide_eq_true rfl)
                have cs_5 : w2.cell? ⟨(w.heap.size + 1), 5, none⟩ = some (.bool false) := A1_2.c 5 (of_decide_eq_true rfl)
                have cs_6 : w2.cell? ⟨(w.heap.size + 1), 6, none⟩ = some (.bool false) := A1_2.c 6 (of_decide_eq_true rfl)
                have cs_7 : w2.cell? ⟨(w.heap.size + 1), 7, none⟩ = some (.int .i64 o) := A1_2.c 7 (of_decide_eq_true rfl)
                have cz_0 : w2.cell? ⟨(w.heap.size + 1 + 1), 0, none⟩ = some (.int .i64 0) := A2_2.c 0 (of_decide_eq_true rfl)
                have gz_0 := A2_2.f 0 (of_decide_eq_true rfl)
                have cz_1 : w2.cell? ⟨(w.heap.size + 1 + 1), 1, none⟩ = some (.int .i64 0) := A2_2.c 1 (of_decide_eq_true rfl)
                have gz_1 := A2_2.f 1 (of_decide_eq_true rfl)
                have cz_2 : w2.cell? ⟨(w.heap.size + 1 + 1), 2, none⟩ = some (.int .i64 0) := A2_2.c 2 (of_decide_eq_true rfl)
                have gz_2 := A2_2.f 2 (of_decide_eq_true rfl)
                have cz_3 : w2.cell? ⟨(w.heap.size + 1 + 1), 3, none⟩ = some (.int .i64 0) := A2_2.c 3 (of_decide_eq_true rfl)
                have gz_3 := A2_2.f 3 (of_decide_eq_true rfl)
                have cz_4 : w2.cell? ⟨(w.heap.size + 1 + 1), 4, none⟩ = some (.int .i64 0) := A2_2.c 4 (of_decide_eq_true rfl)
                have gz_4 := A2_2.f 4 (of_decide_eq_true rfl)
                have cz_5 : w2.cell? ⟨(w.heap.size + 1 + 1), 5, none⟩ = some (.int .i64 0) := A2_2.c 5 (of_decide_eq_true rfl)
                have gz_5 := A2_2.f 5 (of_decide_eq_true rfl)
                have l2 := A2_2.lies
                go_wp2_with fail
                refine (fail_any 8 2 c g (cntS i true) (cntS l true) f _ ⟨by decide, by decide⟩ ⟨by decide, by decide⟩ (by decide)).mono ?_
                rintro e w3 ⟨rfl, b3⟩
                have A0_3 : Arr w.heap.size [.int .i64 2, .int .i64 c, .int .i64 g, .int .i64 (cntS i true), .int .i64 (cntS l true), .int .i64 f] w3 := (A0_2.put 3 (of_decide_eq_true rfl) (.int .i64 (cntS i true)) [.int .i64 2, .int .i64 c, .int .i64 g, .int .i64 (cntS i true), .int .i64 (cntS l true), .int .i64 f] rfl).below b3
                have A1_3 : Arr (w.heap.size + 1) [.bool gap, .bool false, .bool slow, .bool true, .bool true, .bool false, .bool false, .int .i64 o] w3 := (A1_2.new w.heap.size 3 (by omega) (.int .i64 (cntS i true))).below b3
                have A2_3 : Arr (w.heap.size + 1 + 1) [.int .i64 0, .int .i64 0, .int .i64 0, .int .i64 0, .int .i64 0, .int .i64 0] w3 := (A2_2.new w.heap.size 3 (by omega) (.int .i64 (cntS i true))).below b3
                have K3 : Below w.heap.size w w3 := bel_then (bel_new K2 w.heap.size 3 (by omega) (.int .i64 (cntS i true))) b3
                clear A0_2 A1_2 A2_2 K2 cp_0 gp_0 cp_1 gp_1 cp_2 gp_2 cp_3 gp_3 cp_4 gp_4 cp_5 gp_5 cs_0 cs_1 cs_2 cs_3 cs_4 cs_5 cs_6 cs_7 cz_0 gz_0 cz_1 gz_1 cz_2 gz_2 cz_3 gz_3 cz_4 gz_4 cz_5 gz_5 l2
                clear b3
                have cp_0 : w3.cell? ⟨w.heap.size, 0, none⟩ = some (.int .i64 2) := A0_3.c 0 (of_decide_eq_true rfl)
                have gp_0 := A0_3.f 0 (of_decide_eq_true rfl)
                have cp_1 : w3.cell? ⟨w.heap.size, 1, none⟩ = some (.int .i64 c) := A0_3.c 1 (of_decide_eq_true rfl)
                have gp_1 := A0_3.f 1 (of_decide_eq_true rfl)
                have cp_2 : w3.cell? ⟨w.heap.size, 2, none⟩ = some (.int .i64 g) := A0_3.c 2 (of_decide_eq_true rfl)
                have gp_2 := A0_3.f 2 (of_decide_eq_true rfl)
                have cp_3 : w3.cell? ⟨w.heap.size, 3, none⟩ = some (.int .i64 (cntS i true)) := A0_3.c 3 (of_decide_eq_true rfl)
                have gp_3 := A0_3.f 3 (of_decide_eq_true rfl)
                have cp_4 : w3.cell? ⟨w.heap.size, 4, none⟩ = some (.int .i64 (cntS l true)) := A0_3.c 4 (of_decide_eq_true rfl)
                have gp_4 := A0_3.f 4 (of_decide_eq_true rfl)
                have cp_5 : w3.cell? ⟨w.heap.size, 5, none⟩ = some (.int .i64 f) := A0_3.c 5 (of_decide_eq_true rfl)
                have gp_5 := A0_3.f 5 (of_decide_eq_true rfl)
                have cs_0 : w3.cell? ⟨(w.heap.size + 1), 0, none⟩ = some (.bool gap) := A1_3.c 0 (of_decide_eq_true rfl)
                have cs_1 : w3.cell? ⟨(w.heap.size + 1), 1, none⟩ = some (.bool false) := A1_3.c 1 (of_decide_eq_true rfl)
                have cs_2 : w3.cell? ⟨(w.heap.size + 1), 2, none⟩ = some (.bool slow) := A1_3.c 2 (of_decide_eq_true rfl)
                have cs_3 : w3.cell? ⟨(w.heap.size + 1), 3, none⟩ = some (.bool true) := A1_3.c 3 (of_decide_eq_true rfl)
                have cs_4 : w3.cell? ⟨(w.heap.size + 1), 4, none⟩ = some (.bool true) := A1_3.c 4 (of_decide_eq_true rfl)
                have cs_5 : w3.cell? ⟨(w.heap.size + 1), 5, none⟩ = some (.bool false) := A1_3.c 5 (of_decide_eq_true rfl)
                have cs_6 : w3.cell? ⟨(w.heap.size + 1), 6, none⟩ = some (.bool false) := A1_3.c 6 (of_decide_eq_true rfl)
                have cs_7 : w3.cell? ⟨(w.heap.size + 1), 7, none⟩ = some (.int .i64 o) := A1_3.c 7 (of_decide_eq_true rfl)
                have cz_0 : w3.cell? ⟨(w.heap.size + 1 + 1), 0, none⟩ = some (.int .i64 0) := A2_3.c 0 (of_decide_eq_true rfl)
                have gz_0 := A2_3.f 0 (of_decide_eq_true rfl)
                have cz_1 : w3.cell? ⟨(w.heap.size + 1 + 1), 1, none⟩ = some (.int .i64 0) := A2_3.c 1 (of_decide_eq_true rfl)
                have gz_1 := A2_3.f 1 (of_decide_eq_true rfl)
                have cz_2 : w3.cell? ⟨(w.heap.size + 1 + 1), 2, none⟩ = some (.int .i64 0) := A2_3.c 2 (of_decide_eq_true rfl)
                have gz_2 := A2_3.f 2 (of_decide_eq_true rfl)
                have cz_3 : w3.cell? ⟨(w.heap.size + 1 + 1), 3, none⟩ = some (.int .i64 0) := A2_3.c 3 (of_decide_eq_true rfl)
                have gz_3 := A2_3.f 3 (of_decide_eq_true rfl)
                have cz_4 : w3.cell? ⟨(w.heap.size + 1 + 1), 4, none⟩ = some (.int .i64 0) := A2_3.c 4 (of_decide_eq_true rfl)
                have gz_4 := A2_3.f 4 (of_decide_eq_true rfl)
                have cz_5 : w3.cell? ⟨(w.heap.size + 1 + 1), 5, none⟩ = some (.int .i64 0) := A2_3.c 5 (of_decide_eq_true rfl)
                have gz_5 := A2_3.f 5 (of_decide_eq_true rfl)
                have l3 := A2_3.lies
                go_wp2_with (with_reducible refine post_stop ?_)
                have A9 := ((((((A2_3.put 0 (of_decide_eq_true rfl) (.int .i64 1) [.int .i64 1, .int .i64 0, .int .i64 0, .int .i64 0, .int .i64 0, .int .i64 0] rfl).put 1 (of_decide_eq_true rfl) (.int .i64 0) [.int .i64 1, .int .i64 0, .int .i64 0, .int .i64 0, .int .i64 0, .int .i64 0] rfl).put 2 (of_decide_eq_true rfl) (.int .i64 0) [.int .i64 1, .int .i64 0, .int .i64 0, .int .i64 0, .int .i64 0, .int .i64 0] rfl).put 3 (of_decide_eq_true rfl) (.int .i64 0) [.int .i64 1, .int .i64 0, .int .i64 0, .int .i64 0, .int .i64 0, .int .i64 0] rfl).put 4 (of_decide_eq_true rfl) (.int .i64 0) [.int .i64 1, .int .i64 0, .int .i64 0, .int .i64 0, .int .i64 0, .int .i64 0] rfl).put 5 (of_decide_eq_true rfl) (.int .i64 (bits .or .i64 f 8)) [.int .i64 1, .int .i64 0, .int .i64 0, .int .i64 0, .int .i64 0, .int .i64 (bits .or .i64 f 8)] rfl)
                have K9 := (bel_new (bel_new (bel_new (bel_new (bel_new (bel_new K3 (w.heap.size + 1 + 1) 0 (by omega) (.int .i64 1)) (w.heap.size + 1 + 1) 1 (by omega) (.int .i64 0)) (w.heap.size + 1 + 1) 2 (by omega) (.int .i64 0)) (w.heap.size + 1 + 1) 3 (by omega) (.int .i64 0)) (w.heap.size + 1 + 1) 4 (by omega) (.int .i64 0)) (w.heap.size + 1 + 1) 5 (by omega) (.int .i64 (bits .or .i64 f 8)))
                clear cp_0 gp_0 cp_1 gp_1 cp_2 gp_2 cp_3 gp_3 cp_4 gp_4 cp_5 gp_5 cs_0 cs_1 cs_2 cs_3 cs_4 cs_5 cs_6 cs_7 cz_0 gz_0 cz_1 gz_1 cz_2 gz_2 cz_3 gz_3 cz_4 gz_4 cz_5 gz_5
                exact ⟨bodyPost_ret (v := .agg #[.int .i64 1, .int .i64 0, .int .i64 0, .int .i64 0, .int .i64 0, .int .i64 (bits .or .i64 f 8)]) (results_arr Try.results17 A9 rfl (by kernel_rfl) (by kernel_rfl)) rfl ⟨by rw [HS.out], K9⟩⟩
              · have HS : Hid (plV (finS ⟨2, c, g, i, l, f⟩ ⟨gap, false, slow, true, true, false, false, o⟩) = .agg #[.int .i64 2, .int .i64 c, .int .i64 g, .int .i64 (cntS i true), .int .i64 (cntS l true), .int .i64 f]) := by show plV _ = _; first | exact congrArg plV ((if_neg t).trans (if_neg u)) | rfl | exact congrArg plV (if_neg t) | exact congrArg plV (if_neg u) | exact congrArg plV (if_pos u)
                go_enter Try.func17, Try.ntmps17
                go_wp2_with fail
                refine (counted_any l true _ hl).mono ?_
                rintro e w1 ⟨rfl, b1⟩
                have A0_1 : Arr w.heap.size [.int .i64 2, .int .i64 c, .int .i64 g, .int .i64 i, .int .i64 l, .int .i64 f] w1 := (((Arr_at _ w.heap.size [.int .i64 2, .int .i64 c, .int .i64 g, .int .i64 i, .int .i64 l, .int .i64 f] 23 (by simp)).alloc _).alloc _).below b1
                have A1_1 : Arr (w.heap.size + 1) [.bool gap, .bool false, .bool slow, .bool true, .bool true, .bool false, .bool false, .int .i64 o] w1 := ((Arr_at _ (w.heap.size + 1) [.bool gap, .bool false, .bool slow, .bool true, .bool true, .bool false, .bool false, .int .i64 o] 25 (by simp)).alloc _).below b1
                have A2_1 : Arr (w.heap.size + 1 + 1) [.int .i64 0, .int .i64 0, .int .i64 0, .int .i64 0, .int .i64 0, .int .i64 0] w1 := (Arr_at _ (w.heap.size + 1 + 1) [.int .i64 0, .int .i64 0, .int .i64 0, .int .i64 0, .int .i64 0, .int .i64 0] 23 (by simp)).below b1
                have K1 : Below w.heap.size w w1 := bel_then (bel_al (bel_al (bel_al (Below.refl w.heap.size w) _) _) _) b1
                clear b1
                have cp_0 : w1.cell? ⟨w.heap.size, 0, none⟩ = some (.int .i64 2) := A0_1.c 0 (of_decide_eq_true rfl)
                have gp_0 := A0_1.f 0 (of_decide_eq_true rfl)
                have cp_1 : w1.cell? ⟨w.heap.size, 1, none⟩ = some (.int .i64 c) := A0_1.c 1 (of_decide_eq_true rfl)
                have gp_1 := A0_1.f 1 (of_decide_eq_true rfl)
                have cp_2 : w1.cell? ⟨w.heap.size, 2, none⟩ = some (.int .i64 g) := A0_1.c 2 (of_decide_eq_true rfl)
                have gp_2 := A0_1.f 2 (of_decide_eq_true rfl)
                have cp_3 : w1.cell? ⟨w.heap.size, 3, none⟩ = some (.int .i64 i) := A0_1.c 3 (of_decide_eq_true rfl)
                have gp_3 := A0_1.f 3 (of_decide_eq_true rfl)
                have cp_4 : w1.cell? ⟨w.heap.size, 4, none⟩ = some (.int .i64 l) := A0_1.c 4 (of_decide_eq_true rfl)
                have gp_4 := A0_1.f 4 (of_decide_eq_true rfl)
                have cp_5 : w1.cell? ⟨w.heap.size, 5, none⟩ = some (.int .i64 f) := A0_1.c 5 (of_decide_eq_true rfl)
                have gp_5 := A0_1.f 5 (of_decide_eq_true rfl)
                have cs_0 : w1.cell? ⟨(w.heap.size + 1), 0, none⟩ = some (.bool gap) := A1_1.c 0 (of_decide_eq_true rfl)
                have cs_1 : w1.cell? ⟨(w.heap.size + 1), 1, none⟩ = some (.bool false) := A1_1.c 1 (of_decide_eq_true rfl)
                have cs_2 : w1.cell? ⟨(w.heap.size + 1), 2, none⟩ = some (.bool slow) := A1_1.c 2 (of_decide_eq_true rfl)
                have cs_3 : w1.cell? ⟨(w.heap.size + 1), 3, none⟩ = some (.bool true) := A1_1.c 3 (of_decide_eq_true rfl)
                have cs_4 : w1.cell? ⟨(w.heap.size + 1), 4, none⟩ = some (.bool true) := A1_1.c 4 (of_decide_eq_true rfl)
                have cs_5 : w1.cell? ⟨(w.heap.size + 1), 5, none⟩ = some (.bool false) := A1_1.c 5 (of_decide_eq_true rfl)
                have cs_6 : w1.cell? ⟨(w.heap.size + 1), 6, none⟩ = some (.bool false) := A1_1.c 6 (of_decide_eq_true rfl)
                have cs_7 : w1.cell? ⟨(w.heap.size + 1), 7, none⟩ = some (.int .i64 o) := A1_1.c 7 (of_decide_eq_true rfl)
                have cz_0 : w1.cell? ⟨(w.heap.size + 1 + 1), 0, none⟩ = some (.int .i64 0) := A2_1.c 0 (of_decide_eq_true rfl)
                have gz_0 := A2_1.f 0 (of_decide_eq_true rfl)
                have cz_1 : w1.cell? ⟨(w.heap.size + 1 + 1), 1, none⟩ = some (.int .i64 0) := A2_1.c 1 (of_decide_eq_true rfl)
                have gz_1 := A2_1.f 1 (of_decide_eq_true rfl)
                have cz_2 : w1.cell? ⟨(w.heap.size + 1 + 1), 2, none⟩ = some (.int .i64 0) := A2_1.c 2 (of_decide_eq_true rfl)
                have gz_2 := A2_1.f 2 (of_decide_eq_true rfl)
                have cz_3 : w1.cell? ⟨(w.heap.size + 1 + 1), 3, none⟩ = some (.int .i64 0) := A2_1.c 3 (of_decide_eq_true rfl)
                have gz_3 := A2_1.f 3 (of_decide_eq_true rfl)
                have cz_4 : w1.cell? ⟨(w.heap.size + 1 + 1), 4, none⟩ = some (.int .i64 0) := A2_1.c 4 (of_decide_eq_true rfl)
                have gz_4 := A2_1.f 4 (of_decide_eq_true rfl)
                have cz_5 : w1.cell? ⟨(w.heap.size + 1 + 1), 5, none⟩ = some (.int .i64 0) := A2_1.c 5 (of_decide_eq_true rfl)
                have gz_5 := A2_1.f 5 (of_decide_eq_true rfl)
                have l1 := A2_1.lies
                go_wp2_with fail
                refine (counted_any i true _ hi).mono ?_
                rintro e w2 ⟨rfl, b2⟩
                have A0_2 : Arr w.heap.size [.int .i64 2, .int .i64 c, .int .i64 g, .int .i64 i, .int .i64 (cntS l true), .int .i64 f] w2 := (A0_1.put 4 (of_decide_eq_true rfl) (.int .i64 (cntS l true)) [.int .i64 2, .int .i64 c, .int .i64 g, .int .i64 i, .int .i64 (cntS l true), .int .i64 f] rfl).below b2
                have A1_2 : Arr (w.heap.size + 1) [.bool gap, .bool false, .bool slow, .bool true, .bool true, .bool false, .bool false, .int .i64 o] w2 := (A1_1.new w.heap.size 4 (by omega) (.int .i64 (cntS l true))).below b2
                have A2_2 : Arr (w.heap.size + 1 + 1) [.int .i64 0, .int .i64 0, .int .i64 0, .int .i64 0, .int .i64 0, .int .i64 0] w2 := (A2_1.new w.heap.size 4 (by omega) (.int .i64 (cntS l true))).below b2
                have K2 : Below w.heap.size w w2 := bel_then (bel_new K1 w.heap.size 4 (by omega) (.int .i64 (cntS l true))) b2
                clear A0_1 A1_1 A2_1 K1 cp_0 gp_0 cp_1 gp_1 cp_2 gp_2 cp_3 gp_3 cp_4 gp_4 cp_5 gp_5 cs_0 cs_1 cs_2 cs_3 cs_4 cs_5 cs_6 cs_7 cz_0 gz_0 cz_1 gz_1 cz_2 gz_2 cz_3 gz_3 cz_4 gz_4 cz_5 gz_5 l1
                clear b2
                have cp_0 : w2.cell? ⟨w.heap.size, 0, none⟩ = some (.int .i64 2) := A0_2.c 0 (of_decide_eq_true rfl)
                have gp_0 := A0_2.f 0 (of_decide_eq_true rfl)
                have cp_1 : w2.cell? ⟨w.heap.size, 1, none⟩ = some (.int .i64 c) := A0_2.c 1 (of_decide_eq_true rfl)
                have gp_1 := A0_2.f 1 (of_decide_eq_true rfl)
                have cp_2 : w2.cell? ⟨w.heap.size, 2, none⟩ = some (.int .i64 g) := A0_2.c 2 (of_decide_eq_true rfl)
                have gp_2 := A0_2.f 2 (of_decide_eq_true rfl)
                have cp_3 : w2.cell? ⟨w.heap.size, 3, none⟩ = some (.int .i64 i) := A0_2.c 3 (of_decide_eq_true rfl)
                have gp_3 := A0_2.f 3 (of_decide_eq_true rfl)
                have cp_4 : w2.cell? ⟨w.heap.size, 4, none⟩ = some (.int .i64 (cntS l true)) := A0_2.c 4 (of_decide_eq_true rfl)
                have gp_4 := A0_2.f 4 (of_decide_eq_true rfl)
                have cp_5 : w2.cell? ⟨w.heap.size, 5, none⟩ = some (.int .i64 f) := A0_2.c 5 (of_decide_eq_true rfl)
                have gp_5 := A0_2.f 5 (of_decide_eq_true rfl)
                have cs_0 : w2.cell? ⟨(w.heap.size + 1), 0, none⟩ = some (.bool gap) := A1_2.c 0 (of_decide_eq_true rfl)
                have cs_1 : w2.cell? ⟨(w.heap.size + 1), 1, none⟩ = some (.bool false) := A1_2.c 1 (of_decide_eq_true rfl)
                have cs_2 : w2.cell? ⟨(w.heap.size + 1), 2, none⟩ = some (.bool slow) := A1_2.c 2 (of_decide_eq_true rfl)
                have cs_3 : w2.cell? ⟨(w.heap.size + 1), 3, none⟩ = some (.bool true) := A1_2.c 3 (of_decide_eq_true rfl)
                have cs_4 : w2.cell? ⟨(w.heap.size + 1), 4, none⟩ = some (.bool true) := A1_2.c 4 (of_decide_eq_true rfl)
                have cs_5 : w2.cell? ⟨(w.heap.size + 1), 5, none⟩ = some (.bool false) := A1_2.c 5 (of_decide_eq_true rfl)
                have cs_6 : w2.cell? ⟨(w.heap.size + 1), 6, none⟩ = some (.bool false) := A1_2.c 6 (of_decide_eq_true rfl)
                have cs_7 : w2.cell? ⟨(w.heap.size + 1), 7, none⟩ = some (.int .i64 o) := A1_2.c 7 (of_decide_eq_true rfl)
                have cz_0 : w2.cell? ⟨(w.heap.size + 1 + 1), 0, none⟩ = some (.int .i64 0) := A2_2.c 0 (of_decide_eq_true rfl)
                have gz_0 := A2_2.f 0 (of_decide_eq_true rfl)
                have cz_1 : w2.cell? ⟨(w.heap.size + 1 + 1), 1, none⟩ = some (.int .i64 0) := A2_2.c 1 (of_decide_eq_true rfl)
                have gz_1 := A2_2.f 1 (of_decide_eq_true rfl)
                have cz_2 : w2.cell? ⟨(w.heap.size + 1 + 1), 2, none⟩ = some (.int .i64 0) := A2_2.c 2 (of_decide_eq_true rfl)
                have gz_2 := A2_2.f 2 (of_decide_eq_true rfl)
                have cz_3 : w2.cell? ⟨(w.heap.size + 1 + 1), 3, none⟩ = some (.int .i64 0) := A2_2.c 3 (of_decide_eq_true rfl)
                have gz_3 := A2_2.f 3 (of_decide_eq_true rfl)
                have cz_4 : w2.cell? ⟨(w.heap.size + 1 + 1), 4, none⟩ = some (.int .i64 0) := A2_2.c 4 (of_decide_eq_true rfl)
                have gz_4 := A2_2.f 4 (of_decide_eq_true rfl)
                have cz_5 : w2.cell? ⟨(w.heap.size + 1 + 1), 5, none⟩ = some (.int .i64 0) := A2_2.c 5 (of_decide_eq_true rfl)
                have gz_5 := A2_2.f 5 (of_decide_eq_true rfl)
                have l2 := A2_2.lies
                go_wp2_with (with_reducible refine post_stop ?_)
                have A9 := (((((((A2_2.new w.heap.size 3 (by omega) (.int .i64 (cntS i true))).put 0 (of_decide_eq_true rfl) (.int .i64 2) [.int .i64 2, .int .i64 0, .int .i64 0, .int .i64 0, .int .i64 0, .int .i64 0] rfl).put 1 (of_decide_eq_true rfl) (.int .i64 c) [.int .i64 2, .int .i64 c, .int .i64 0, .int .i64 0, .int .i64 0, .int .i64 0] rfl).put 2 (of_decide_eq_true rfl) (.int .i64 g) [.int .i64 2, .int .i64 c, .int .i64 g, .int .i64 0, .int .i64 0, .int .i64 0] rfl).put 3 (of_decide_eq_true rfl) (.int .i64 (cntS i true)) [.int .i64 2, .int .i64 c, .int .i64 g, .int .i64 (cntS i true), .int .i64 0, .int .i64 0] rfl).put 4 (of_decide_eq_true rfl) (.int .i64 (cntS l true)) [.int .i64 2, .int .i64 c, .int .i64 g, .int .i64 (cntS i true), .int .i64 (cntS l true), .int .i64 0] rfl).put 5 (of_decide_eq_true rfl) (.int .i64 f) [.int .i64 2, .int .i64 c, .int .i64 g, .int .i64 (cntS i true), .int .i64 (cntS l true), .int .i64 f] rfl)
                have K9 := (bel_new (bel_new (bel_new (bel_new (bel_new (bel_new (bel_new K2 w.heap.size 3 (by omega) (.int .i64 (cntS i true))) (w.heap.size + 1 + 1) 0 (by omega) (.int .i64 2)) (w.heap.size + 1 + 1) 1 (by omega) (.int .i64 c)) (w.heap.size + 1 + 1) 2 (by omega) (.int .i64 g)) (w.heap.size + 1 + 1) 3 (by omega) (.int .i64 (cntS i true))) (w.heap.size + 1 + 1) 4 (by omega) (.int .i64 (cntS l true))) (w.heap.size + 1 + 1) 5 (by omega) (.int .i64 f))
                clear cp_0 gp_0 cp_1 gp_1 cp_2 gp_2 cp_3 gp_3 cp_4 gp_4 cp_5 gp_5 cs_0 cs_1 cs_2 cs_3 cs_4 cs_5 cs_6 cs_7 cz_0 gz_0 cz_1 gz_1 cz_2 gz_2 cz_3 gz_3 cz_4 gz_4 cz_5 gz_5
                exact ⟨bodyPost_ret (v := .agg #[.int .i64 2, .int .i64 c, .int .i64 g, .int .i64 (cntS i true), .int .i64 (cntS l true), .int .i64 f]) (results_arr Try.results17 A9 rfl (by kernel_rfl) (by kernel_rfl)) rfl ⟨by rw [HS.out], K9⟩⟩
            · have u : ¬ 5 ≤ cntS i false := by show ¬ (5 : Int) ≤ 0; decide
              · have HS : Hid (plV (finS ⟨2, c, g, i, l, f⟩ ⟨gap, false, slow, true, true, false, true, o⟩) = .agg #[.int .i64 2, .int .i64 c, .int .i64 g, .int .i64 (cntS i false), .int .i64 (cntS l true), .int .i64 f]) := by show plV _ = _; first | exact congrArg plV ((if_neg t).trans (if_neg u)) | rfl | exact congrArg plV (if_neg t) | exact congrArg plV (if_neg u) | exact congrArg plV (if_pos u)
                go_enter Try.func17, Try.ntmps17
                go_wp2_with fail
                refine (counted_any l true _ hl).mono ?_
                rintro e w1 ⟨rfl, b1⟩
                have A0_1 : Arr w.heap.size [.int .i64 2, .int .i64 c, .int .i64 g, .int .i64 i, .int .i64 l, .int .i64 f] w1 := (((Arr_at _ w.heap.size [.int .i64 2, .int .i64 c, .int .i64 g, .int .i64 i, .int .i64 l, .int .i64 f] 23 (by simp)).alloc _).alloc _).below b1
                have A1_1 : Arr (w.heap.size + 1) [.bool gap, .bool false, .bool slow, .bool true, .bool true, .bool false, .bool true, .int .i64 o] w1 := ((Arr_at _ (w.heap.size + 1) [.bool gap, .bool false, .bool slow, .bool true, .bool true, .bool false, .bool true, .int .i64 o] 25 (by simp)).alloc _).below b1
                have A2_1 : Arr (w.heap.size + 1 + 1) [.int .i64 0, .int .i64 0, .int .i64 0, .int .i64 0, .int .i64 0, .int .i64 0] w1 := (Arr_at _ (w.heap.size + 1 + 1) [.int .i64 0, .int .i64 0, .int .i64 0, .int .i64 0, .int .i64 0, .int .i64 0] 23 (by simp)).below b1
                have K1 : Below w.heap.size w w1 := bel_then (bel_al (bel_al (bel_al (Below.refl w.heap.size w) _) _) _) b1
                clear b1
                have cp_0 : w1.cell? ⟨w.heap.size, 0, none⟩ = some (.int .i64 2) := A0_1.c 0 (of_decide_eq_true rfl)
                have gp_0 := A0_1.f 0 (of_decide_eq_true rfl)
                have cp_1 : w1.cell? ⟨w.heap.size, 1, none⟩ = some (.int .i64 c) := A0_1.c 1 (of_decide_eq_true rfl)
                have gp_1 := A0_1.f 1 (of_decide_eq_true rfl)
                have cp_2 : w1.cell? ⟨w.heap.size, 2, none⟩ = some (.int .i64 g) := A0_1.c 2 (of_decide_eq_true rfl)
                have gp_2 := A0_1.f 2 (of_decide_eq_true rfl)
                have cp_3 : w1.cell? ⟨w.heap.size, 3, none⟩ = some (.int .i64 i) := A0_1.c 3 (of_decide_eq_true rfl)
                have gp_3 := A0_1.f 3 (of_decide_eq_true rfl)
                have cp_4 : w1.cell? ⟨w.heap.size, 4, none⟩ = some (.int .i64 l) := A0_1.c 4 (of_decide_eq_true rfl)
                have gp_4 := A0_1.f 4 (of_decide_eq_true rfl)
                have cp_5 : w1.cell? ⟨w.heap.size, 5, none⟩ = some (.int .i64 f) := A0_1.c 5 (of_decide_eq_true rfl)
                have gp_5 := A0_1.f 5 (of_decide_eq_true rfl)
                have cs_0 : w1.cell? ⟨(w.heap.size + 1), 0, none⟩ = some (.bool gap) := A1_1.c 0 (of_decide_eq_true rfl)
                have cs_1 : w1.cell? ⟨(w.heap.size + 1), 1, none⟩ = some (.bool false) := A1_1.c 1 (of_decide_eq_true rfl)
                have cs_2 : w1.cell? ⟨(w.heap.size + 1), 2, none⟩ = some (.bool slow) := A1_1.c 2 (of_decide_eq_true rfl)
                have cs_3 : w1.cell? ⟨(w.heap.size + 1), 3, none⟩ = some (.bool true) := A1_1.c 3 (of_decide_eq_true rfl)
                have cs_4 : w1.cell? ⟨(w.heap.size + 1), 4, none⟩ = some (.bool true) := A1_1.c 4 (of_decide_eq_true rfl)
                have cs_5 : w1.cell? ⟨(w.heap.size + 1), 5, none⟩ = some (.bool false) := A1_1.c 5 (of_decide_eq_true rfl)
                have cs_6 : w1.cell? ⟨(w.heap.size + 1), 6, none⟩ = some (.bool true) := A1_1.c 6 (of_decide_eq_true rfl)
                have cs_7 : w1.cell? ⟨(w.heap.size + 1), 7, none⟩ = some (.int .i64 o) := A1_1.c 7 (of_decide_eq_true rfl)
                have cz_0 : w1.cell? ⟨(w.heap.size + 1 + 1), 0, none⟩ = some (.int .i64 0) := A2_1.c 0 (of_decide_eq_true rfl)
                have gz_0 := A2_1.f 0 (of_decide_eq_true rfl)
                have cz_1 : w1.cell? ⟨(w.heap.size + 1 + 1), 1, none⟩ = some (.int .i64 0) := A2_1.c 1 (of_decide_eq_true rfl)
                have gz_1 := A2_1.f 1 (of_decide_eq_true rfl)
                have cz_2 : w1.cell? ⟨(w.heap.size + 1 + 1), 2, none⟩ = some (.int .i64 0) := A2_1.c 2 (of_decide_eq_true rfl)
                have gz_2 := A2_1.f 2 (of_decide_eq_true rfl)
                have cz_3 : w1.cell? ⟨(w.heap.size + 1 + 1), 3, none⟩ = some (.int .i64 0) := A2_1.c 3 (of_decide_eq_true rfl)
                have gz_3 := A2_1.f 3 (of_decide_eq_true rfl)
                have cz_4 : w1.cell? ⟨(w.heap.size + 1 + 1), 4, none⟩ = some (.int .i64 0) := A2_1.c 4 (of_decide_eq_true rfl)
                have gz_4 := A2_1.f 4 (of_decide_eq_true rfl)
                have cz_5 : w1.cell? ⟨(w.heap.size + 1 + 1), 5, none⟩ = some (.int .i64 0) := A2_1.c 5 (of_decide_eq_true rfl)
                have gz_5 := A2_1.f 5 (of_decide_eq_true rfl)
                have l1 := A2_1.lies
                go_wp2_with fail
                refine (counted_any i false _ hi).mono ?_
                rintro e w2 ⟨rfl, b2⟩
                have A0_2 : Arr w.heap.size [.int .i64 2, .int .i64 c, .int .i64 g, .int .i64 i, .int .i64 (cntS l true), .int .i64 f] w2 := (A0_1.put 4 (of_decide_eq_true rfl) (.int .i64 (cntS l true)) [.int .i64 2, .int .i64 c, .int .i64 g, .int .i64 i, .int .i64 (cntS l true), .int .i64 f] rfl).below b2
                have A1_2 : Arr (w.heap.size + 1) [.bool gap, .bool false, .bool slow, .bool true, .bool true, .bool false, .bool true, .int .i64 o] w2 := (A1_1.new w.heap.size 4 (by omega) (.int .i64 (cntS l true))).below b2
                have A2_2 : Arr (w.heap.size + 1 + 1) [.int .i64 0, .int .i64 0, .int .i64 0, .int .i64 0, .int .i64 0, .int .i64 0] w2 := (A2_1.new w.heap.size 4 (by omega) (.int .i64 (cntS l true))).below b2
                have K2 : Below w.heap.size w w2 := bel_then (bel_new K1 w.heap.size 4 (by omega) (.int .i64 (cntS l true))) b2
                clear A0_1 A1_1 A2_1 K1 cp_0 gp_0 cp_1 gp_1 cp_2 gp_2 cp_3 gp_3 cp_4 gp_4 cp_5 gp_5 cs_0 cs_1 cs_2 cs_3 cs_4 cs_5 cs_6 cs_7 cz_0 gz_0 cz_1 gz_1 cz_2 gz_2 cz_3 gz_3 cz_4 gz_4 cz_5 gz_5 l1
                clear b2
                have cp_0 : w2.cell? ⟨w.heap.size, 0, none⟩ = some (.int .i64 2) := A0_2.c 0 (of_decide_eq_true rfl)
                have gp_0 := A0_2.f 0 (of_decide_eq_true rfl)
                have cp_1 : w2.cell? ⟨w.heap.size, 1, none⟩ = some (.int .i64 c) := A0_2.c 1 (of_decide_eq_true rfl)
                have gp_1 := A0_2.f 1 (of_decide_eq_true rfl)
                have cp_2 : w2.cell? ⟨w.heap.size, 2, none⟩ = some (.int .i64 g) := A0_2.c 2 (of_decide_eq_true rfl)
                have gp_2 := A0_2.f 2 (of_decide_eq_true rfl)
                have cp_3 : w2.cell? ⟨w.heap.size, 3, none⟩ = some (.int .i64 i) := A0_2.c 3 (of_decide_eq_true rfl)
                have gp_3 := A0_2.f 3 (of_decide_eq_true rfl)
                have cp_4 : w2.cell? ⟨w.heap.size, 4, none⟩ = some (.int .i64 (cntS l true)) := A0_2.c 4 (of_decide_eq_true rfl)
                have gp_4 := A0_2.f 4 (of_decide_eq_true rfl)
                have cp_5 : w2.cell? ⟨w.heap.size, 5, none⟩ = some (.int .i64 f) := A0_2.c 5 (of_decide_eq_true rfl)
                have gp_5 := A0_2.f 5 (of_decide_eq_true rfl)
                have cs_0 : w2.cell? ⟨(w.heap.size + 1), 0, none⟩ = some (.bool gap) := A1_2.c 0 (of_decide_eq_true rfl)
                have cs_1 : w2.cell? ⟨(w.heap.size + 1), 1, none⟩ = some (.bool false) := A1_2.c 1 (of_decide_eq_true rfl)
                have cs_2 : w2.cell? ⟨(w.heap.size + 1), 2, none⟩ = some (.bool slow) := A1_2.c 2 (of_decide_eq_true rfl)
                have cs_3 : w2.cell? ⟨(w.heap.size + 1), 3, none⟩ = some (.bool true) := A1_2.c 3 (of_decide_eq_true rfl)
                have cs_4 : w2.cell? ⟨(w.heap.size + 1), 4, none⟩ = some (.bool true) := A1_2.c 4 (of_decide_eq_true rfl)
                have cs_5 : w2.cell? ⟨(w.heap.size + 1), 5, none⟩ = some (.bool false) := A1_2.c 5 (of_decide_eq_true rfl)
                have cs_6 : w2.cell? ⟨(w.heap.size + 1), 6, none⟩ = some (.bool true) := A1_2.c 6 (of_decide_eq_true rfl)
                have cs_7 : w2.cell? ⟨(w.heap.size + 1), 7, none⟩ = some (.int .i64 o) := A1_2.c 7 (of_decide_eq_true rfl)
                have cz_0 : w2.cell? ⟨(w.heap.size + 1 + 1), 0, none⟩ = some (.int .i64 0) := A2_2.c 0 (of_decide_eq_true rfl)
                have gz_0 := A2_2.f 0 (of_decide_eq_true rfl)
                have cz_1 : w2.cell? ⟨(w.heap.size + 1 + 1), 1, none⟩ = some (.int .i64 0) := A2_2.c 1 (of_decide_eq_true rfl)
                have gz_1 := A2_2.f 1 (of_decide_eq_true rfl)
                have cz_2 : w2.cell? ⟨(w.heap.size + 1 + 1), 2, none⟩ = some (.int .i64 0) := A2_2.c 2 (of_decide_eq_true rfl)
                have gz_2 := A2_2.f 2 (of_decide_eq_true rfl)
                have cz_3 : w2.cell? ⟨(w.heap.size + 1 + 1), 3, none⟩ = some (.int .i64 0) := A2_2.c 3 (of_decide_eq_true rfl)
                have gz_3 := A2_2.f 3 (of_decide_eq_true rfl)
                have cz_4 : w2.cell? ⟨(w.heap.size + 1 + 1), 4, none⟩ = some (.int .i64 0) := A2_2.c 4 (of_decide_eq_true rfl)
                have gz_4 := A2_2.f 4 (of_decide_eq_true rfl)
                have cz_5 : w2.cell? ⟨(w.heap.size + 1 + 1), 5, none⟩ = some (.int .i64 0) := A2_2.c 5 (of_decide_eq_true rfl)
                have gz_5 := A2_2.f 5 (of_decide_eq_true rfl)
                have l2 := A2_2.lies
                go_wp2_with (with_reducible refine post_stop ?_)
                have A9 := (((((((A2_2.new w.heap.size 3 (by omega) (.int .i64 (cntS i false))).put 0 (of_decide_eq_true rfl) (.int .i64 2) [.int .i64 2, .int .i64 0, .int .i64 0, .int .i64 0, .int .i64 0, .int .i64 0] rfl).put 1 (of_decide_eq_true rfl) (.int .i64 c) [.int .i64 2, .int .i64 c, .int .i64 0, .int .i64 0, .int .i64 0, .int .i64 0] rfl).put 2 (of_decide_eq_true rfl) (.int .i64 g) [.int .i64 2, .int .i64 c, .int .i64 g, .int .i64 0, .int .i64 0, .int .i64 0] rfl).put 3 (of_decide_eq_true rfl) (.int .i64 (cntS i false)) [.int .i64 2, .int .i64 c, .int .i64 g, .int .i64 (cntS i false), .int .i64 0, .int .i64 0] rfl).put 4 (of_decide_eq_true rfl) (.int .i64 (cntS l true)) [.int .i64 2, .int .i64 c, .int .i64 g, .int .i64 (cntS i false), .int .i64 (cntS l true), .int .i64 0] rfl).put 5 (of_decide_eq_true rfl) (.int .i64 f) [.int .i64 2, .int .i64 c, .int .i64 g, .int .i64 (cntS i false), .int .i64 (cntS l true), .int .i64 f] rfl)
                have K9 := (bel_new (bel_new (bel_new (bel_new (bel_new (bel_new (bel_new K2 w.heap.size 3 (by omega) (.int .i64 (cntS i false))) (w.heap.size + 1 + 1) 0 (by omega) (.int .i64 2)) (w.heap.size + 1 + 1) 1 (by omega) (.int .i64 c)) (w.heap.size + 1 + 1) 2 (by omega) (.int .i64 g)) (w.heap.size + 1 + 1) 3 (by omega) (.int .i64 (cntS i false))) (w.heap.size + 1 + 1) 4 (by omega) (.int .i64 (cntS l true))) (w.heap.size + 1 + 1) 5 (by omega) (.int .i64 f))
                clear cp_0 gp_0 cp_1 gp_1 cp_2 gp_2 cp_3 gp_3 cp_4 gp_4 cp_5 gp_5 cs_0 cs_1 cs_2 cs_3 cs_4 cs_5 cs_6 cs_7 cz_0 gz_0 cz_1 gz_1 cz_2 gz_2 cz_3 gz_3 cz_4 gz_4 cz_5 gz_5
                exact ⟨bodyPost_ret (v := .agg #[.int .i64 2, .int .i64 c, .int .i64 g, .int .i64 (cntS i false), .int .i64 (cntS l true), .int .i64 f]) (results_arr Try.results17 A9 rfl (by kernel_rfl) (by kernel_rfl)) rfl ⟨by rw [HS.out], K9⟩⟩
    · have t : ¬ 3 ≤ cntS l false := by show ¬ (3 : Int) ≤ 0; decide
      · cases pair
        · have HS : Hid (plV (finS ⟨2, c, g, i, l, f⟩ ⟨gap, true, slow, false, lit, false, pass, o⟩) = .agg #[.int .i64 2, .int .i64 c, .int .i64 g, .int .i64 i, .int .i64 (cntS l false), .int .i64 f]) := by show plV _ = _; first | exact congrArg plV (if_neg t) | rfl | exact congrArg plV (if_neg t) | exact congrArg plV (if_neg u) | exact congrArg plV (if_pos u)
          go_enter Try.func17, Try.ntmps17
          go_wp2_with fail
          refine (counted_any l false _ hl).mono ?_
          rintro e w1 ⟨rfl, b1⟩
          have A0_1 : Arr w.heap.size [.int .i64 2, .int .i64 c, .int .i64 g, .int .i64 i, .int .i64 l, .int .i64 f] w1 := (((Arr_at _ w.heap.size [.int .i64 2, .int .i64 c, .int .i64 g, .int .i64 i, .int .i64 l, .int .i64 f] 23 (by simp)).alloc _).alloc _).below b1
          have A1_1 : Arr (w.heap.size + 1) [.bool gap, .bool true, .bool slow, .bool false, .bool lit, .bool false, .bool pass, .int .i64 o] w1 := ((Arr_at _ (w.heap.size + 1) [.bool gap, .bool true, .bool slow, .bool false, .bool lit, .bool false, .bool pass, .int .i64 o] 25 (by simp)).alloc _).below b1
          have A2_1 : Arr (w.heap.size + 1 + 1) [.int .i64 0, .int .i64 0, .int .i64 0, .int .i64 0, .int .i64 0, .int .i64 0] w1 := (Arr_at _ (w.heap.size + 1 + 1) [.int .i64 0, .int .i64 0, .int .i64 0, .int .i64 0, .int .i64 0, .int .i64 0] 23 (by simp)).below b1
          have K1 : Below w.heap.size w w1 := bel_then (bel_al (bel_al (bel_al (Below.refl w.heap.size w) _) _) _) b1
          clear b1
          have cp_0 : w1.cell? ⟨w.heap.size, 0, none⟩ = some (.int .i64 2) := A0_1.c 0 (of_decide_eq_true rfl)
          have gp_0 := A0_1.f 0 (of_decide_eq_true rfl)
          have cp_1 : w1.cell? ⟨w.heap.size, 1, none⟩ = some (.int .i64 c) := A0_1.c 1 (of_decide_eq_true rfl)
          have gp_1 := A0_1.f 1 (of_decide_eq_true rfl)
          have cp_2 : w1.cell? ⟨w.heap.size, 2, none⟩ = some (.int .i64 g) := A0_1.c 2 (of_decide_eq_true rfl)
          have gp_2 := A0_1.f 2 (of_decide_eq_true rfl)
          have cp_3 : w1.cell? ⟨w.heap.size, 3, none⟩ = some (.int .i64 i) := A0_1.c 3 (of_decide_eq_true rfl)
          have gp_3 := A0_1.f 3 (of_decide_eq_true rfl)
          have cp_4 : w1.cell? ⟨w.heap.size, 4, none⟩ = some (.int .i64 l) := A0_1.c 4 (of_decide_eq_true rfl)
          have gp_4 := A0_1.f 4 (of_decide_eq_true rfl)
          have cp_5 : w1.cell? ⟨w.heap.size, 5, none⟩ = some (.int .i64 f) := A0_1.c 5 (of_decide_eq_true rfl)
          have gp_5 := A0_1.f 5 (of_decide_eq_true rfl)
          have cs_0 : w1.cell? ⟨(w.heap.size + 1), 0, none⟩ = some (.bool gap) := A1_1.c 0 (of_decide_eq_true rfl)
          have cs_1 : w1.cell? ⟨(w.heap.size + 1), 1, none⟩ = some (.bool true) := A1_1.c 1 (of_decide_eq_true rfl)
          have cs_2 : w1.cell? ⟨(w.heap.size + 1), 2, none⟩ = some (.bool slow) := A1_1.c 2 (of_decide_eq_true rfl)
          have cs_3 : w1.cell? ⟨(w.heap.size + 1), 3, none⟩ = some (.bool false) := A1_1.c 3 (of_decide_eq_true rfl)
          have cs_4 : w1.cell? ⟨(w.heap.size + 1), 4, none⟩ = some (.bool lit) := A1_1.c 4 (of_decide_eq_true rfl)
          have cs_5 : w1.cell? ⟨(w.heap.size + 1), 5, none⟩ = some (.bool false) := A1_1.c 5 (of_decide_eq_true rfl)
          have cs_6 : w1.cell? ⟨(w.heap.size + 1), 6, none⟩ = some (.bool pass) := A1_1.c 6 (of_decide_eq_true rfl)
          have cs_7 : w1.cell? ⟨(w.heap.size + 1), 7, none⟩ = some (.int .i64 o) := A1_1.c 7 (of_decide_eq_true rfl)
          have cz_0 : w1.cell? ⟨(w.heap.size + 1 + 1), 0, none⟩ = some (.int .i64 0) := A2_1.c 0 (of_decide_eq_true rfl)
          have gz_0 := A2_1.f 0 (of_decide_eq_true rfl)
          have cz_1 : w1.cell? ⟨(w.heap.size + 1 + 1), 1, none⟩ = some (.int .i64 0) := A2_1.c 1 (of_decide_eq_true rfl)
          have gz_1 := A2_1.f 1 (of_decide_eq_true rfl)
          have cz_2 : w1.cell? ⟨(w.heap.size + 1 + 1), 2, none⟩ = some (.int .i64 0) := A2_1.c 2 (of_decide_eq_true rfl)
          have gz_2 := A2_1.f 2 (of_decide_eq_true rfl)
          have cz_3 : w1.cell? ⟨(w.heap.size + 1 + 1), 3, none⟩ = some (.int .i64 0) := A2_1.c 3 (of_decide_eq_true rfl)
          have gz_3 := A2_1.f 3 (of_decide_eq_true rfl)
          have cz_4 : w1.cell? ⟨(w.heap.size + 1 + 1), 4, none⟩ = some (.int .i64 0) := A2_1.c 4 (of_decide_eq_true rfl)
          have gz_4 := A2_1.f 4 (of_decide_eq_true rfl)
          have cz_5 : w1.cell? ⟨(w.heap.size + 1 + 1), 5, none⟩ = some (.int .i64 0) := A2_1.c 5 (of_decide_eq_true rfl)
          have gz_5 := A2_1.f 5 (of_decide_eq_true rfl)
          have l1 := A2_1.lies
          go_wp2_with (with_reducible refine post_stop ?_)
          have A9 := (((((((A2_1.new w.heap.size 4 (by omega) (.int .i64 (cntS l false))).put 0 (of_decide_eq_true rfl) (.int .i64 2) [.int .i64 2, .int .i64 0, .int .i64 0, .int .i64 0, .int .i64 0, .int .i64 0] rfl).put 1 (of_decide_eq_true rfl) (.int .i64 c) [.int .i64 2, .int .i64 c, .int .i64 0, .int .i64 0, .int .i64 0, .int .i64 0] rfl).put 2 (of_decide_eq_true rfl) (.int .i64 g) [.int .i64 2, .int .i64 c, .int .i64 g, .int .i64 0, .int .i64 0, .int .i64 0] rfl).put 3 (of_decide_eq_true rfl) (.int .i64 i) [.int .i64 2, .int .i64 c, .int .i64 g, .int .i64 i, .int .i64 0, .int .i64 0] rfl).put 4 (of_decide_eq_true rfl) (.int .i64 (cntS l false)) [.int .i64 2, .int .i64 c, .int .i64 g, .int .i64 i, .int .i64 (cntS l false), .int .i64 0] rfl).put 5 (of_decide_eq_true rfl) (.int .i64 f) [.int .i64 2, .int .i64 c, .int .i64 g, .int .i64 i, .int .i64 (cntS l false), .int .i64 f] rfl)
          have K9 := (bel_new (bel_new (bel_new (bel_new (bel_new (bel_new (bel_new K1 w.heap.size 4 (by omega) (.int .i64 (cntS l false))) (w.heap.size + 1 + 1) 0 (by omega) (.int .i64 2)) (w.heap.size + 1 + 1) 1 (by omega) (.int .i64 c)) (w.heap.size + 1 + 1) 2 (by omega) (.int .i64 g)) (w.heap.size + 1 + 1) 3 (by omega) (.int .i64 i)) (w.heap.size + 1 + 1) 4 (by omega) (.int .i64 (cntS l false))) (w.heap.size + 1 + 1) 5 (by omega) (.int .i64 f))
          clear cp_0 gp_0 cp_1 gp_1 cp_2 gp_2 cp_3 gp_3 cp_4 gp_4 cp_5 gp_5 cs_0 cs_1 cs_2 cs_3 cs_4 cs_5 cs_6 cs_7 cz_0 gz_0 cz_1 gz_1 cz_2 gz_2 cz_3 gz_3 cz_4 gz_4 cz_5 gz_5
          exact ⟨bodyPost_ret (v := .agg #[.int .i64 2, .int .i64 c, .int .i64 g, .int .i64 i, .int .i64 (cntS l false), .int .i64 f]) (results_arr Try.results17 A9 rfl (by kernel_rfl) (by kernel_rfl)) rfl ⟨by rw [HS.out], K9⟩⟩
        · cases lit
          · have HS : Hid (plV (finS ⟨2, c, g, i, l, f⟩ ⟨gap, true, slow, true, false, false, pass, o⟩) = .agg #[.int .i64 2, .int .i64 c, .int .i64 g, .int .i64 i, .int .i64 (cntS l false), .int .i64 f]) := by show plV _ = _; first | exact congrArg plV (if_neg t) | rfl | exact congrArg plV (if_neg t) | exact congrArg plV (if_neg u) | exact congrArg plV (if_pos u)
            go_enter Try.func17, Try.ntmps17
            go_wp2_with fail
            refine (counted_any l false _ hl).mono ?_
            rintro e w1 ⟨rfl, b1⟩
            have A0_1 : Arr w.heap.size [.int .i64 2, .int .i64 c, .int .i64 g, .int .i64 i, .int .i64 l, .int .i64 f] w1 := (((Arr_at _ w.heap.size [.int .i64 2, .int .i64 c, .int .i64 g, .int .i64 i, .int .i64 l, .int .i64 f] 23 (by simp)).alloc _).alloc _).below b1
            have A1_1 : Arr (w.heap.size + 1) [.bool gap, .bool true, .bool slow, .bool true, .bool false, .bool false, .bool pass, .int .i64 o] w1 := ((Arr_at _ (w.heap.size + 1) [.bool gap, .bool true, .bool slow, .bool true, .bool false, .bool false, .bool pass, .int .i64 o] 25 (by simp)).alloc _).below b1
            have A2_1 : Arr (w.heap.size + 1 + 1) [.int .i64 0, .int .i64 0, .int .i64 0, .int .i64 0, .int .i64 0, .int .i64 0] w1 := (Arr_at _ (w.heap.size + 1 + 1) [.int .i64 0, .int .i64 0, .int .i64 0, .int .i64 0, .int .i64 0, .int .i64 0] 23 (by simp)).below b1
            have K1 : Below w.heap.size w w1 := bel_then (bel_al (bel_al (bel_al (Below.refl w.heap.size w) _) _) _) b1
            clear b1
            have cp_0 : w1.cell? ⟨w.heap.size, 0, none⟩ = some (.int .i64 2) := A0_1.c 0 (of_decide_eq_true rfl)
            have gp_0 := A0_1.f 0 (of_decide_eq_true rfl)
            have cp_1 : w1.cell? ⟨w.heap.size, 1, none⟩ = some (.int .i64 c) := A0_1.c 1 (of_decide_eq_true rfl)
            have gp_1 := A0_1.f 1 (of_decide_eq_true rfl)
            have cp_2 : w1.cell? ⟨w.heap.size, 2, none⟩ = some (.int .i64 g) := A0_1.c 2 (of_decide_eq_true rfl)
            have gp_2 := A0_1.f 2 (of_decide_eq_true rfl)
            have cp_3 : w1.cell? ⟨w.heap.size, 3, none⟩ = some (.int .i64 i) := A0_1.c 3 (of_decide_eq_true rfl)
            have gp_3 := A0_1.f 3 (of_decide_eq_true rfl)
            have cp_4 : w1.cell? ⟨w.heap.size, 4, none⟩ = some (.int .i64 l) := A0_1.c 4 (of_decide_eq_true rfl)
            have gp_4 := A0_1.f 4 (of_decide_eq_true rfl)
            have cp_5 : w1.cell? ⟨w.heap.size, 5, none⟩ = some (.int .i64 f) := A0_1.c 5 (of_decide_eq_true rfl)
            have gp_5 := A0_1.f 5 (of_decide_eq_true rfl)
            have cs_0 : w1.cell? ⟨(w.heap.size + 1), 0, none⟩ = some (.bool gap) := A1_1.c 0 (of_decide_eq_true rfl)
            have cs_1 : w1.cell? ⟨(w.heap.size + 1), 1, none⟩ = some (.bool true) := A1_1.c 1 (of_decide_eq_true rfl)
            have cs_2 : w1.cell? ⟨(w.heap.size + 1), 2, none⟩ = some (.bool slow) := A1_1.c 2 (of_decide_eq_true rfl)
            have cs_3 : w1.cell? ⟨(w.heap.size + 1), 3, none⟩ = some (.bool true) := A1_1.c 3 (of_decide_eq_true rfl)
            have cs_4 : w1.cell? ⟨(w.heap.size + 1), 4, none⟩ = some (.bool false) := A1_1.c 4 (of_decide_eq_true rfl)
            have cs_5 : w1.cell? ⟨(w.heap.size + 1), 5, none⟩ = some (.bool false) := A1_1.c 5 (of_decide_eq_true rfl)
            have cs_6 : w1.cell? ⟨(w.heap.size + 1), 6, none⟩ = some (.bool pass) := A1_1.c 6 (of_decide_eq_true rfl)
            have cs_7 : w1.cell? ⟨(w.heap.size + 1), 7, none⟩ = some (.int .i64 o) := A1_1.c 7 (of_decide_eq_true rfl)
            have cz_0 : w1.cell? ⟨(w.heap.size + 1 + 1), 0, none⟩ = some (.int .i64 0) := A2_1.c 0 (of_decide_eq_true rfl)
            have gz_0 := A2_1.f 0 (of_decide_eq_true rfl)
            have cz_1 : w1.cell? ⟨(w.heap.size + 1 + 1), 1, none⟩ = some (.int .i64 0) := A2_1.c 1 (of_decide_eq_true rfl)
            have gz_1 := A2_1.f 1 (of_decide_eq_true rfl)
            have cz_2 : w1.cell? ⟨(w.heap.size + 1 + 1), 2, none⟩ = some (.int .i64 0) := A2_1.c 2 (of_decide_eq_true rfl)
            have gz_2 := A2_1.f 2 (of_decide_eq_true rfl)
            have cz_3 : w1.cell? ⟨(w.heap.size + 1 + 1), 3, none⟩ = some (.int .i64 0) := A2_1.c 3 (of_decide_eq_true rfl)
            have gz_3 := A2_1.f 3 (of_decide_eq_true rfl)
            have cz_4 : w1.cell? ⟨(w.heap.size + 1 + 1), 4, none⟩ = some (.int .i64 0) := A2_1.c 4 (of_decide_eq_true rfl)
            have gz_4 := A2_1.f 4 (of_decide_eq_true rfl)
            have cz_5 : w1.cell? ⟨(w.heap.size + 1 + 1), 5, none⟩ = some (.int .i64 0) := A2_1.c 5 (of_decide_eq_true rfl)
            have gz_5 := A2_1.f 5 (of_decide_eq_true rfl)
            have l1 := A2_1.lies
            go_wp2_with (with_reducible refine post_stop ?_)
            have A9 := (((((((A2_1.new w.heap.size 4 (by omega) (.int .i64 (cntS l false))).put 0 (of_decide_eq_true rfl) (.int .i64 2) [.int .i64 2, .int .i64 0, .int .i64 0, .int .i64 0, .int .i64 0, .int .i64 0] rfl).put 1 (of_decide_eq_true rfl) (.int .i64 c) [.int .i64 2, .int .i64 c, .int .i64 0, .int .i64 0, .int .i64 0, .int .i64 0] rfl).put 2 (of_decide_eq_true rfl) (.int .i64 g) [.int .i64 2, .int .i64 c, .int .i64 g, .int .i64 0, .int .i64 0, .int .i64 0] rfl).put 3 (of_decide_eq_true rfl) (.int .i64 i) [.int .i64 2, .int .i64 c, .int .i64 g, .int .i64 i, .int .i64 0, .int .i64 0] rfl).put 4 (of_decide_eq_true rfl) (.int .i64 (cntS l false)) [.int .i64 2, .int .i64 c, .int .i64 g, .int .i64 i, .int .i64 (cntS l false), .int .i64 0] rfl).put 5 (of_decide_eq_true rfl) (.int .i64 f) [.int .i64 2, .int .i64 c, .int .i64 g, .int .i64 i, .int .i64 (cntS l false), .int .i64 f] rfl)
            have K9 := (bel_new (bel_new (bel_new (bel_new (bel_new (bel_new (bel_new K1 w.heap.size 4 (by omega) (.int .i64 (cntS l false))) (w.heap.size + 1 + 1) 0 (by omega) (.int .i64 2)) (w.heap.size + 1 + 1) 1 (by omega) (.int .i64 c)) (w.heap.size + 1 + 1) 2 (by omega) (.int .i64 g)) (w.heap.size + 1 + 1) 3 (by omega) (.int .i64 i)) (w.heap.size + 1 + 1) 4 (by omega) (.int .i64 (cntS l false))) (w.heap.size + 1 + 1) 5 (by omega) (.int .i64 f))
            clear cp_0 gp_0 cp_1 gp_1 cp_2 gp_2 cp_3 gp_3 cp_4 gp_4 cp_5 gp_5 cs_0 cs_1 cs_2 cs_3 cs_4 cs_5 cs_6 cs_7 cz_0 gz_0 cz_1 gz_1 cz_2 gz_2 cz_3 gz_3 cz_4 gz_4 cz_5 gz_5
            exact ⟨bodyPost_ret (v := .agg #[.int .i64 2, .int .i64 c, .int .i64 g, .int .i64 i, .int .i64 (cntS l false), .int .i64 f]) (results_arr Try.results17 A9 rfl (by kernel_rfl) (by kernel_rfl)) rfl ⟨by rw [HS.out], K9⟩⟩
          · cases pass
            · by_cases u : 5 ≤ cntS i true
              · have HS : Hid (plV (finS ⟨2, c, g, i, l, f⟩ ⟨gap, true, slow, true, true, false, false, o⟩) = .agg #[.int .i64 1, .int .i64 0, .int .i64 0, .int .i64 0, .int .i64 0, .int .i64 (bits .or .i64 f 8)]) := by show plV _ = _; first | exact congrArg plV ((if_neg t).trans (if_pos u)) | rfl | exact congrArg plV (if_neg t) | exact congrArg plV (if_neg u) | exact congrArg plV (if_pos u)
                go_enter Try.func17, Try.ntmps17
                go_wp2_with fail
                refine (counted_any l false _ hl).mono ?_
                rintro e w1 ⟨rfl, b1⟩
                have A0_1 : Arr w.heap.size [.int .i64 2, .int .i64 c, .int .i64 g, .int .i64 i, .int .i64 l, .int .i64 f] w1 := (((Arr_at _ w.heap.size [.int .i64 2, .int .i64 c, .int .i64 g, .int .i64 i, .int .i64 l, .int .i64 f] 23 (by simp)).alloc _).alloc _).below b1
                have A1_1 : Arr (w.heap.size + 1) [.bool gap, .bool true, .bool slow, .bool true, .bool true, .bool false, .bool false, .int .i64 o] w1 := ((Arr_at _ (w.heap.size + 1) [.bool gap, .bool true, .bool slow, .bool true, .bool true, .bool false, .bool false, .int .i64 o] 25 (by simp)).alloc _).below b1
                have A2_1 : Arr (w.heap.size + 1 + 1) [.int .i64 0, .int .i64 0, .int .i64 0, .int .i64 0, .int .i64 0, .int .i64 0] w1 := (Arr_at _ (w.heap.size + 1 + 1) [.int .i64 0, .int .i64 0, .int .i64 0, .int .i64 0, .int .i64 0, .int .i64 0] 23 (by simp)).below b1
                have K1 : Below w.heap.size w w1 := bel_then (bel_al (bel_al (bel_al (Below.refl w.heap.size w) _) _) _) b1
                clear b1
                have cp_0 : w1.cell? ⟨w.heap.size, 0, none⟩ = some (.int .i64 2) := A0_1.c 0 (of_decide_eq_true rfl)
                have gp_0 := A0_1.f 0 (of_decide_eq_true rfl)
                have cp_1 : w1.cell? ⟨w.heap.size, 1, none⟩ = some (.int .i64 c) := A0_1.c 1 (of_decide_eq_true rfl)
                have gp_1 := A0_1.f 1 (of_decide_eq_true rfl)
                have cp_2 : w1.cell? ⟨w.heap.size, 2, none⟩ = some (.int .i64 g) := A0_1.c 2 (of_decide_eq_true rfl)
                have gp_2 := A0_1.f 2 (of_decide_eq_true rfl)
                have cp_3 : w1.cell? ⟨w.heap.size, 3, none⟩ = some (.int .i64 i) := A0_1.c 3 (of_decide_eq_true rfl)
                have gp_3 := A0_1.f 3 (of_decide_eq_true rfl)
                have cp_4 : w1.cell? ⟨w.heap.size, 4, none⟩ = some (.int .i64 l) := A0_1.c 4 (of_decide_eq_true rfl)
                have gp_4 := A0_1.f 4 (of_decide_eq_true rfl)
                have cp_5 : w1.cell? ⟨w.heap.size, 5, none⟩ = some (.int .i64 f) := A0_1.c 5 (of_decide_eq_true rfl)
                have gp_5 := A0_1.f 5 (of_decide_eq_true rfl)
                have cs_0 : w1.cell? ⟨(w.heap.size + 1), 0, none⟩ = some (.bool gap) := A1_1.c 0 (of_decide_eq_true rfl)
                have cs_1 : w1.cell? ⟨(w.heap.size + 1), 1, none⟩ = some (.bool true) := A1_1.c 1 (of_decide_eq_true rfl)
                have cs_2 : w1.cell? ⟨(w.heap.size + 1), 2, none⟩ = some (.bool slow) := A1_1.c 2 (of_decide_eq_true rfl)
                have cs_3 : w1.cell? ⟨(w.heap.size + 1), 3, none⟩ = some (.bool true) := A1_1.c 3 (of_decide_eq_true rfl)
                have cs_4 : w1.cell? ⟨(w.heap.size + 1), 4, none⟩ = some (.bool true) := A1_1.c 4 (of_decide_eq_true rfl)
                have cs_5 : w1.cell? ⟨(w.heap.size + 1), 5, none⟩ = some (.bool false) := A1_1.c 5 (of_decide_eq_true rfl)
                have cs_6 : w1.cell? ⟨(w.heap.size + 1), 6, none⟩ = some (.bool false) := A1_1.c 6 (of_decide_eq_true rfl)
                have cs_7 : w1.cell? ⟨(w.heap.size + 1), 7, none⟩ = some (.int .i64 o) := A1_1.c 7 (of_decide_eq_true rfl)
                have cz_0 : w1.cell? ⟨(w.heap.size + 1 + 1), 0, none⟩ = some (.int .i64 0) := A2_1.c 0 (of_decide_eq_true rfl)
                have gz_0 := A2_1.f 0 (of_decide_eq_true rfl)
                have cz_1 : w1.cell? ⟨(w.heap.size + 1 + 1), 1, none⟩ = some (.int .i64 0) := A2_1.c 1 (of_decide_eq_true rfl)
                have gz_1 := A2_1.f 1 (of_decide_eq_true rfl)
                have cz_2 : w1.cell? ⟨(w.heap.size + 1 + 1), 2, none⟩ = some (.int .i64 0) := A2_1.c 2 (of_decide_eq_true rfl)
                have gz_2 := A2_1.f 2 (of_decide_eq_true rfl)
                have cz_3 : w1.cell? ⟨(w.heap.size + 1 + 1), 3, none⟩ = some (.int .i64 0) := A2_1.c 3 (of_decide_eq_true rfl)
                have gz_3 := A2_1.f 3 (of_decide_eq_true rfl)
                have cz_4 : w1.cell? ⟨(w.heap.size + 1 + 1), 4, none⟩ = some (.int .i64 0) := A2_1.c 4 (of_decide_eq_true rfl)
                have gz_4 := A2_1.f 4 (of_decide_eq_true rfl)
                have cz_5 : w1.cell? ⟨(w.heap.size + 1 + 1), 5, none⟩ = some (.int .i64 0) := A2_1.c 5 (of_decide_eq_true rfl)
                have gz_5 := A2_1.f 5 (of_decide_eq_true rfl)
                have l1 := A2_1.lies
                go_wp2_with fail
                refine (counted_any i true _ hi).mono ?_
                rintro e w2 ⟨rfl, b2⟩
                have A0_2 : Arr w.heap.size [.int .i64 2, .int .i64 c, .int .i64 g, .int .i64 i, .int .i64 (cntS l false), .int .i64 f] w2 := (A0_1.put 4 (of_decide_eq_true rfl) (.int .i64 (cntS l false)) [.int .i64 2, .int .i64 c, .int .i64 g, .int .i64 i, .int .i64 (cntS l false), .int .i64 f] rfl).below b2
                have A1_2 : Arr (w.heap.size + 1) [.bool gap, .bool true, .bool slow, .bool true, .bool true, .bool false, .bool false, .int .i64 o] w2 := (A1_1.new w.heap.size 4 (by omega) (.int .i64 (cntS l false))).below b2
                have A2_2 : Arr (w.heap.size + 1 + 1) [.int .i64 0, .int .i64 0, .int .i64 0, .int .i64 0, .int .i64 0, .int .i64 0] w2 := (A2_1.new w.heap.size 4 (by omega) (.int .i64 (cntS l false))).below b2
                have K2 : Below w.heap.size w w2 := bel_then (bel_new K1 w.heap.size 4 (by omega) (.int .i64 (cntS l false))) b2
                clear A0_1 A1_1 A2_1 K1 cp_0 gp_0 cp_1 gp_1 cp_2 gp_2 cp_3 gp_3 cp_4 gp_4 cp_5 gp_5 cs_0 cs_1 cs_2 cs_3 cs_4 cs_5 cs_6 cs_7 cz_0 gz_0 cz_1 gz_1 cz_2 gz_2 cz_3 gz_3 cz_4 gz_4 cz_5 gz_5 l1
                clear b2
                have cp_0 : w2.cell? ⟨w.heap.size, 0, none⟩ = some (.int .i64 2) := A0_2.c 0 (of_decide_eq_true rfl)
                have gp_0 := A0_2.f 0 (of_decide_eq_true rfl)
                have cp_1 : w2.cell? ⟨w.heap.size, 1, none⟩ = some (.int .i64 c) := A0_2.c 1 (of_decide_eq_true rfl)
                have gp_1 := A0_2.f 1 (of_decide_eq_true rfl)
                have cp_2 : w2.cell? ⟨w.heap.size, 2, none⟩ = some (.int .i64 g) := A0_2.c 2 (of_decide_eq_true rfl)
                have gp_2 := A0_2.f 2 (of_decide_eq_true rfl)
                have cp_3 : w2.cell? ⟨w.heap.size, 3, none⟩ = some (.int .i64 i) := A0_2.c 3 (of_decide_eq_true rfl)
                have gp_3 := A0_2.f 3 (of_decide_eq_true rfl)
                have cp_4 : w2.cell? ⟨w.heap.size, 4, none⟩ = some (.int .i64 (cntS l false)) := A0_2.c 4 (of_decide_eq_true rfl)
                have gp_4 := A0_2.f 4 (of_decide_eq_true rfl)
                have cp_5 : w2.cell? ⟨w.heap.size, 5, none⟩ = some (.int .i64 f) := A0_2.c 5 (of_decide_eq_true rfl)
                have gp_5 := A0_2.f 5 (of_decide_eq_true rfl)
                have cs_0 : w2.cell? ⟨(w.heap.size + 1), 0, none⟩ = some (.bool gap) := A1_2.c 0 (of_decide_eq_true rfl)
                have cs_1 : w2.cell? ⟨(w.heap.size + 1), 1, none⟩ = some (.bool true) := A1_2.c 1 (of_decide_eq_true rfl)
                have cs_2 : w2.cell? ⟨(w.heap.size + 1), 2, none⟩ = some (.bool slow) := A1_2.c 2 (of_decide_eq_true rfl)
                have cs_3 : w2.cell? ⟨(w.heap.size + 1), 3, none⟩ = some (.bool true) := A1_2.c 3 (of_decide_eq_true rfl)
                have cs_4 : w2.cell? ⟨(w.heap.size + 1), 4, none⟩ = some (.bool true) := A1_2.c 4 (of_decide_eq_true rfl)
                have cs_5 : w2.cell? ⟨(w.heap.size + 1), 5, none⟩ = some (.bool false) := A1_2.c 5 (of_decide_eq_true rfl)
                have cs_6 : w2.cell? ⟨(w.heap.size + 1), 6, none⟩ = some (.bool false) := A1_2.c 6 (of_decide_eq_true rfl)
                have cs_7 : w2.cell? ⟨(w.heap.size + 1), 7, none⟩ = some (.int .i64 o) := A1_2.c 7 (of_decide_eq_true rfl)
                have cz_0 : w2.cell? ⟨(w.heap.size + 1 + 1), 0, none⟩ = some (.int .i64 0) := A2_2.c 0 (of_decide_eq_true rfl)
                have gz_0 := A2_2.f 0 (of_decide_eq_true rfl)
                have cz_1 : w2.cell? ⟨(w.heap.size + 1 + 1), 1, none⟩ = some (.int .i64 0) := A2_2.c 1 (of_decide_eq_true rfl)
                have gz_1 := A2_2.f 1 (of_decide_eq_true rfl)
                have cz_2 : w2.cell? ⟨(w.heap.size + 1 + 1), 2, none⟩ = some (.int .i64 0) := A2_2.c 2 (of_decide_eq_true rfl)
                have gz_2 := A2_2.f 2 (of_decide_eq_true rfl)
                have cz_3 : w2.cell? ⟨(w.heap.size + 1 + 1), 3, none⟩ = some (.int .i64 0) := A2_2.c 3 (of_decide_eq_true rfl)
                have gz_3 := A2_2.f 3 (of_decide_eq_true rfl)
                have cz_4 : w2.cell? ⟨(w.heap.size + 1 + 1), 4, none⟩ = some (.int .i64 0) := A2_2.c 4 (of_decide_eq_true rfl)
                have gz_4 := A2_2.f 4 (of_decide_eq_true rfl)
                have cz_5 : w2.cell? ⟨(w.heap.size + 1 + 1), 5, none⟩ = some (.int .i64 0) := A2_2.c 5 (of_decide_eq_true rfl)
                have gz_5 := A2_2.f 5 (of_decide_eq_true rfl)
                have l2 := A2_2.lies
                go_wp2_with fail
                refine (fail_any 8 2 c g (cntS i true) (cntS l false) f _ ⟨by decide, by decide⟩ ⟨by decide, by decide⟩ (by decide)).mono ?_
                rintro e w3 ⟨rfl, b3⟩
                have A0_3 : Arr w.heap.size [.int .i64 2, .int .i64 c, .int .i64 g, .int .i64 (cntS i true), .int .i64 (cntS l false), .int .i64 f] w3 := (A0_2.put 3 (of_decide_eq_true rfl) (.int .i64 (cntS i true)) [.int .i64 2, .int .i64 c, .int .i64 g, .int .i64 (cntS i true), .int .i64 (cntS l false), .int .i64 f] rfl).below b3
                have A1_3 : Arr (w.heap.size + 1) [.bool gap, .bool true, .bool slow, .bool true, .bool true, .bool false, .bool false, .int .i64 o] w3 := (A1_2.new w.heap.size 3 (by omega) (.int .i64 (cntS i true))).below b3
                have A2_3 : Arr (w.heap.size + 1 + 1) [.int .i64 0, .int .i64 0, .int .i64 0, .int .i64 0, .int .i64 0, .int .i64 0] w3 := (A2_2.new w.heap.size 3 (by omega) (.int .i64 (cntS i true))).below b3
                have K3 : Below w.heap.size w w3 := bel_then (bel_new K2 w.heap.size 3 (by omega) (.int .i64 (cntS i true))) b3
                clear A0_2 A1_2 A2_2 K2 cp_0 gp_0 cp_1 gp_1 cp_2 gp_2 cp_3 gp_3 cp_4 gp_4 cp_5 gp_5 cs_0 cs_1 cs_2 cs_3 cs_4 cs_5 cs_6 cs_7 cz_0 gz_0 cz_1 gz_1 cz_2 gz_2 cz_3 gz_3 cz_4 gz_4 cz_5 gz_5 l2
                clear b3
                have cp_0 : w3.cell? ⟨w.heap.size, 0, none⟩ = some (.int .i64 2) := A0_3.c 0 (of_decide_eq_true rfl)
                have gp_0 := A0_3.f 0 (of_decide_eq_true rfl)
                have cp_1 : w3.cell? ⟨w.heap.size, 1, none⟩ = some (.int .i64 c) := A0_3.c 1 (of_decide_eq_true rfl)
                have gp_1 := A0_3.f 1 (of_decide_eq_true rfl)
                have cp_2 : w3.cell? ⟨w.heap.size, 2, none⟩ = some (.int .i64 g) := A0_3.c 2 (of_decide_eq_true rfl)
                have gp_2 := A0_3.f 2 (of_decide_eq_true rfl)
                have cp_3 : w3.cell? ⟨w.heap.size, 3, none⟩ = some (.int .i64 (cntS i true)) := A0_3.c 3 (of_decide_eq_true rfl)
                have gp_3 := A0_3.f 3 (of_decide_eq_true rfl)
                have cp_4 : w3.cell? ⟨w.heap.size, 4, none⟩ = some (.int .i64 (cntS l false)) := A0_3.c 4 (of_decide_eq_true rfl)
                have gp_4 := A0_3.f 4 (of_decide_eq_true rfl)
                have cp_5 : w3.cell? ⟨w.heap.size, 5, none⟩ = some (.int .i64 f) := A0_3.c 5 (of_decide_eq_true rfl)
                have gp_5 := A0_3.f 5 (of_decide_eq_true rfl)
                have cs_0 : w3.cell? ⟨(w.heap.size + 1), 0, none⟩ = some (.bool gap) := A1_3.c 0 (of_decide_eq_true rfl)
                have cs_1 : w3.cell? ⟨(w.heap.size + 1), 1, none⟩ = some (.bool true) := A1_3.c 1 (of_decide_eq_true rfl)
                have cs_2 : w3.cell? ⟨(w.heap.size + 1), 2, none⟩ = some (.bool slow) := A1_3.c 2 (of_decide_eq_true rfl)
                have cs_3 : w3.cell? ⟨(w.heap.size + 1), 3, none⟩ = some (.bool true) := A1_3.c 3 (of_decide_eq_true rfl)
                have cs_4 : w3.cell? ⟨(w.heap.size + 1), 4, none⟩ = some (.bool true) := A1_3.c 4 (of_decide_eq_true rfl)
                have cs_5 : w3.cell? ⟨(w.heap.size + 1), 5, none⟩ = some (.bool false) := A1_3.c 5 (of_decide_eq_true rfl)
                have cs_6 : w3.cell? ⟨(w.heap.size + 1), 6, none⟩ = some (.bool false) := A1_3.c 6 (of_decide_eq_true rfl)
                have cs_7 : w3.cell? ⟨(w.heap.size + 1), 7, none⟩ = some (.int .i64 o) := A1_3.c 7 (of_decide_eq_true rfl)
                have cz_0 : w3.cell? ⟨(w.heap.size + 1 + 1), 0, none⟩ = some (.int .i64 0) := A2_3.c 0 (of_decide_eq_true rfl)
                have gz_0 := A2_3.f 0 (of_decide_eq_true rfl)
                have cz_1 : w3.cell? ⟨(w.heap.size + 1 + 1), 1, none⟩ = some (.int .i64 0) := A2_3.c 1 (of_decide_eq_true rfl)
                have gz_1 := A2_3.f 1 (of_decide_eq_true rfl)
                have cz_2 : w3.cell? ⟨(w.heap.size + 1 + 1), 2, none⟩ = some (.int .i64 0) := A2_3.c 2 (of_decide_eq_true rfl)
                have gz_2 := A2_3.f 2 (of_decide_eq_true rfl)
                have cz_3 : w3.cell? ⟨(w.heap.size + 1 + 1), 3, none⟩ = some (.int .i64 0) := A2_3.c 3 (of_decide_eq_true rfl)
                have gz_3 := A2_3.f 3 (of_decide_eq_true rfl)
                have cz_4 : w3.cell? ⟨(w.heap.size + 1 + 1), 4, none⟩ = some (.int .i64 0) := A2_3.c 4 (of_decide_eq_true rfl)
                have gz_4 := A2_3.f 4 (of_decide_eq_true rfl)
                have cz_5 : w3.cell? ⟨(w.heap.size + 1 + 1), 5, none⟩ = some (.int .i64 0) := A2_3.c 5 (of_decide_eq_true rfl)
                have gz_5 := A2_3.f 5 (of_decide_eq_true rfl)
                have l3 := A2_3.lies
                go_wp2_with (with_reducible refine post_stop ?_)
                have A9 := ((((((A2_3.put 0 (of_decide_eq_true rfl) (.int .i64 1) [.int .i64 1, .int .i64 0, .int .i64 0, .int .i64 0, .int .i64 0, .int .i64 0] rfl).put 1 (of_decide_eq_true rfl) (.int .i64 0) [.int .i64 1, .int .i64 0, .int .i64 0, .int .i64 0, .int .i64 0, .int .i64 0] rfl).put 2 (of_decide_eq_true rfl) (.int .i64 0) [.int .i64 1, .int .i64 0, .int .i64 0, .int .i64 0, .int .i64 0, .int .i64 0] rfl).put 3 (of_decide_eq_true rfl) (.int .i64 0) [.int .i64 1, .int .i64 0, .int .i64 0, .int .i64 0, .int .i64 0, .int .i64 0] rfl).put 4 (of_decide_eq_true rfl) (.int .i64 0) [.int .i64 1, .int .i64 0, .int .i64 0, .int .i64 0, .int .i64 0, .int .i64 0] rfl).put 5 (of_decide_eq_true rfl) (.int .i64 (bits .or .i64 f 8)) [.int .i64 1, .int .i64 0, .int .i64 0, .int .i64 0, .int .i64 0, .int .i64 (bits .or .i64 f 8)] rfl)
                have K9 := (bel_new (bel_new (bel_new (bel_new (bel_new (bel_new K3 (w.heap.size + 1 + 1) 0 (by omega) (.int .i64 1)) (w.heap.size + 1 + 1) 1 (by omega) (.int .i64 0)) (w.heap.size + 1 + 1) 2 (by omega) (.int .i64 0)) (w.heap.size + 1 + 1) 3 (by omega) (.int .i64 0)) (w.heap.size + 1 + 1) 4 (by omega) (.int .i64 0)) (w.heap.size + 1 + 1) 5 (by omega) (.int .i64 (bits .or .i64 f 8)))
                clear cp_0 gp_0 cp_1 gp_1 cp_2 gp_2 cp_3 gp_3 cp_4 gp_4 cp_5 gp_5 cs_0 cs_1 cs_2 cs_3 cs_4 cs_5 cs_6 cs_7 cz_0 gz_0 cz_1 gz_1 cz_2 gz_2 cz_3 gz_3 cz_4 gz_4 cz_5 gz_5
                exact ⟨bodyPost_ret (v := .agg #[.int .i64 1, .int .i64 0, .int .i64 0, .int .i64 0, .int .i64 0, .int .i64 (bits .or .i64 f 8)]) (results_arr Try.results17 A9 rfl (by kernel_rfl) (by kernel_rfl)) rfl ⟨by rw [HS.out], K9⟩⟩
              · have HS : Hid (plV (finS ⟨2, c, g, i, l, f⟩ ⟨gap, true, slow, true, true, false, false, o⟩) = .agg #[.int .i64 2, .int .i64 c, .int .i64 g, .int .i64 (cntS i true), .int .i64 (cntS l false), .int .i64 f]) := by show plV _ = _; first | exact congrArg plV ((if_neg t).trans (if_neg u)) | rfl | exact congrArg plV (if_neg t) | exact congrArg plV (if_neg u) | exact congrArg plV (if_pos u)
                go_enter Try.func17, Try.ntmps17
                go_wp2_with fail
                refine (counted_any l false _ hl).mono ?_
                rintro e w1 ⟨rfl, b1⟩
                have A0_1 : Arr w.heap.size [.int .i64 2, .int .i64 c, .int .i64 g, .int .i64 i, .int .i64 l, .int .i64 f] w1 := (((Arr_at _ w.heap.size [.int .i64 2, .int .i64 c, .int .i64 g, .int .i64 i, .int .i64 l, .int .i64 f] 23 (by simp)).alloc _).alloc _).below b1
                have A1_1 : Arr (w.heap.size + 1) [.bool gap, .bool true, .bool slow, .bool true, .bool true, .bool false, .bool false, .int .i64 o] w1 := ((Arr_at _ (w.heap.size + 1) [.bool gap, .bool true, .bool slow, .bool true, .bool true, .bool false, .bool false, .int .i64 o] 25 (by simp)).alloc _).below b1
                have A2_1 : Arr (w.heap.size + 1 + 1) [.int .i64 0, .int .i64 0, .int .i64 0, .int .i64 0, .int .i64 0, .int .i64 0] w1 := (Arr_at _ (w.heap.size + 1 + 1) [.int .i64 0, .int .i64 0, .int .i64 0, .int .i64 0, .int .i64 0, .int .i64 0] 23 (by simp)).below b1
                have K1 : Below w.heap.size w w1 := bel_then (bel_al (bel_al (bel_al (Below.refl w.heap.size w) _) _) _) b1
                clear b1
                have cp_0 : w1.cell? ⟨w.heap.size, 0, none⟩ = some (.int .i64 2) := A0_1.c 0 (of_decide_eq_true rfl)
                have gp_0 := A0_1.f 0 (of_decide_eq_true rfl)
                have cp_1 : w1.cell? ⟨w.heap.size, 1, none⟩ = some (.int .i64 c) := A0_1.c 1 (of_decide_eq_true rfl)
                have gp_1 := A0_1.f 1 (of_decide_eq_true rfl)
                have cp_2 : w1.cell? ⟨w.heap.size, 2, none⟩ = some (.int .i64 g) := A0_1.c 2 (of_decide_eq_true rfl)
                have gp_2 := A0_1.f 2 (of_decide_eq_true rfl)
                have cp_3 : w1.cell? ⟨w.heap.size, 3, none⟩ = some (.int .i64 i) := A0_1.c 3 (of_decide_eq_true rfl)
                have gp_3 := A0_1.f 3 (of_decide_eq_true rfl)
                have cp_4 : w1.cell? ⟨w.heap.size, 4, none⟩ = some (.int .i64 l) := A0_1.c 4 (of_decide_eq_true rfl)
                have gp_4 := A0_1.f 4 (of_decide_eq_true rfl)
                have cp_5 : w1.cell? ⟨w.heap.size, 5, none⟩ = some (.int .i64 f) := A0_1.c 5 (of_decide_eq_true rfl)
                have gp_5 := A0_1.f 5 (of_decide_eq_true rfl)
                have cs_0 : w1.cell? ⟨(w.heap.size + 1), 0, none⟩ = some (.bool gap) := A1_1.c 0 (of_decide_eq_true rfl)
                have cs_1 : w1.cell? ⟨(w.heap.size + 1), 1, none⟩ = some (.bool true) := A1_1.c 1 (of_decide_eq_true rfl)
                have cs_2 : w1.cell? ⟨(w.heap.size + 1), 2, none⟩ = some (.bool slow) := A1_1.c 2 (of_decide_eq_true rfl)
                have cs_3 : w1.cell? ⟨(w.heap.size + 1), 3, none⟩ = some (.bool true) := A1_1.c 3 (of_decide_eq_true rfl)
                have cs_4 : w1.cell? ⟨(w.heap.size + 1), 4, none⟩ = some (.bool true) := A1_1.c 4 (of_decide_eq_true rfl)
                have cs_5 : w1.cell? ⟨(w.heap.size + 1), 5, none⟩ = some (.bool false) := A1_1.c 5 (of_decide_eq_true rfl)
                have cs_6 : w1.cell? ⟨(w.heap.size + 1), 6, none⟩ = some (.bool false) := A1_1.c 6 (of_decide_eq_true rfl)
                have cs_7 : w1.cell? ⟨(w.heap.size + 1), 7, none⟩ = some (.int .i64 o) := A1_1.c 7 (of_decide_eq_true rfl)
                have cz_0 : w1.cell? ⟨(w.heap.size + 1 + 1), 0, none⟩ = some (.int .i64 0) := A2_1.c 0 (of_decide_eq_true rfl)
                have gz_0 := A2_1.f 0 (of_decide_eq_true rfl)
                have cz_1 : w1.cell? ⟨(w.heap.size + 1 + 1), 1, none⟩ = some (.int .i64 0) := A2_1.c 1 (of_decide_eq_true rfl)
                have gz_1 := A2_1.f 1 (of_decide_eq_true rfl)
                have cz_2 : w1.cell? ⟨(w.heap.size + 1 + 1), 2, none⟩ = some (.int .i64 0) := A2_1.c 2 (of_decide_eq_true rfl)
                have gz_2 := A2_1.f 2 (of_decide_eq_true rfl)
                have cz_3 : w1.cell? ⟨(w.heap.size + 1 + 1), 3, none⟩ = some (.int .i64 0) := A2_1.c 3 (of_decide_eq_true rfl)
                have gz_3 := A2_1.f 3 (of_decide_eq_true rfl)
                have cz_4 : w1.cell? ⟨(w.heap.size + 1 + 1), 4, none⟩ = some (.int .i64 0) := A2_1.c 4 (of_decide_eq_true rfl)
                have gz_4 := A2_1.f 4 (of_decide_eq_true rfl)
                have cz_5 : w1.cell? ⟨(w.heap.size + 1 + 1), 5, none⟩ = some (.int .i64 0) := A2_1.c 5 (of_decide_eq_true rfl)
                have gz_5 := A2_1.f 5 (of_decide_eq_true rfl)
                have l1 := A2_1.lies
                go_wp2_with fail
                refine (counted_any i true _ hi).mono ?_
                rintro e w2 ⟨rfl, b2⟩
                have A0_2 : Arr w.heap.size [.int .i64 2, .int .i64 c, .int .i64 g, .int .i64 i, .int .i64 (cntS l false), .int .i64 f] w2 := (A0_1.put 4 (of_decide_eq_true rfl) (.int .i64 (cntS l false)) [.int .i64 2, .int .i64 c, .int .i64 g, .int .i64 i, .int .i64 (cntS l false), .int .i64 f] rfl).below b2
                have A1_2 : Arr (w.heap.size + 1) [.bool gap, .bool true, .bool slow, .bool true, .bool true, .bool false, .bool false, .int .i64 o] w2 := (A1_1.new w.heap.size 4 (by omega) (.int .i64 (cntS l false))).below b2
                have A2_2 : Arr (w.heap.size + 1 + 1) [.int .i64 0, .int .i64 0, .int .i64 0, .int .i64 0, .int .i64 0, .int .i64 0] w2 := (A2_1.new w.heap.size 4 (by omega) (.int .i64 (cntS l false))).below b2
                have K2 : Below w.heap.size w w2 := bel_then (bel_new K1 w.heap.size 4 (by omega) (.int .i64 (cntS l false))) b2
                clear A0_1 A1_1 A2_1 K1 cp_0 gp_0 cp_1 gp_1 cp_2 gp_2 cp_3 gp_3 cp_4 gp_4 cp_5 gp_5 cs_0 cs_1 cs_2 cs_3 cs_4 cs_5 cs_6 cs_7 cz_0 gz_0 cz_1 gz_1 cz_2 gz_2 cz_3 gz_3 cz_4 gz_4 cz_5 gz_5 l1
                clear b2
                have cp_0 : w2.cell? ⟨w.heap.size, 0, none⟩ = some (.int .i64 2) := A0_2.c 0 (of_decide_eq_true rfl)
                have gp_0 := A0_2.f 0 (of_decide_eq_true rfl)
                have cp_1 : w2.cell? ⟨w.heap.size, 1, none⟩ = some (.int .i64 c) := A0_2.c 1 (of_decide_eq_true rfl)
                have gp_1 := A0_2.f 1 (of_decide_eq_true rfl)
                have cp_2 : w2.cell? ⟨w.heap.size, 2, none⟩ = some (.int .i64 g) := A0_2.c 2 (of_decide_eq_true rfl)
                have gp_2 := A0_2.f 2 (of_decide_eq_true rfl)
                have cp_3 : w2.cell? ⟨w.heap.size, 3, none⟩ = some (.int .i64 i) := A0_2.c 3 (of_decide_eq_true rfl)
                have gp_3 := A0_2.f 3 (of_decide_eq_true rfl)
                have cp_4 : w2.cell? ⟨w.heap.size, 4, none⟩ = some (.int .i64 (cntS l false)) := A0_2.c 4 (of_decide_eq_true rfl)
                have gp_4 := A0_2.f 4 (of_decide_eq_true rfl)
                have cp_5 : w2.cell? ⟨w.heap.size, 5, none⟩ = some (.int .i64 f) := A0_2.c 5 (of_decide_eq_true rfl)
                have gp_5 := A0_2.f 5 (of_decide_eq_true rfl)
                have cs_0 : w2.cell? ⟨(w.heap.size + 1), 0, none⟩ = some (.bool gap) := A1_2.c 0 (of_decide_eq_true rfl)
                have cs_1 : w2.cell? ⟨(w.heap.size + 1), 1, none⟩ = some (.bool true) := A1_2.c 1 (of_decide_eq_true rfl)
                have cs_2 : w2.cell? ⟨(w.heap.size + 1), 2, none⟩ = some (.bool slow) := A1_2.c 2 (of_decide_eq_true rfl)
                have cs_3 : w2.cell? ⟨(w.heap.size + 1), 3, none⟩ = some (.bool true) := A1_2.c 3 (of_decide_eq_true rfl)
                have cs_4 : w2.cell? ⟨(w.heap.size + 1), 4, none⟩ = some (.bool true) := A1_2.c 4 (of_decide_eq_true rfl)
                have cs_5 : w2.cell? ⟨(w.heap.size + 1), 5, none⟩ = some (.bool false) := A1_2.c 5 (of_decide_eq_true rfl)
                have cs_6 : w2.cell? ⟨(w.heap.size + 1), 6, none⟩ = some (.bool false) := A1_2.c 6 (of_decide_eq_true rfl)
                have cs_7 : w2.cell? ⟨(w.heap.size + 1), 7, none⟩ = some (.int .i64 o) := A1_2.c 7 (of_decide_eq_true rfl)
                have cz_0 : w2.cell? ⟨(w.heap.size + 1 + 1), 0, none⟩ = some (.int .i64 0) := A2_2.c 0 (of_decide_eq_true rfl)
                have gz_0 := A2_2.f 0 (of_decide_eq_true rfl)
                have cz_1 : w2.cell? ⟨(w.heap.size + 1 + 1), 1, none⟩ = some (.int .i64 0) := A2_2.c 1 (of_decide_eq_true rfl)
                have gz_1 := A2_2.f 1 (of_decide_eq_true rfl)
                have cz_2 : w2.cell? ⟨(w.heap.size + 1 + 1), 2, none⟩ = some (.int .i64 0) := A2_2.c 2 (of_decide_eq_true rfl)
                have gz_2 := A2_2.f 2 (of_decide_eq_true rfl)
                have cz_3 : w2.cell? ⟨(w.heap.size + 1 + 1), 3, none⟩ = some (.int .i64 0) := A2_2.c 3 (of_decide_eq_true rfl)
                have gz_3 := A2_2.f 3 (of_decide_eq_true rfl)
                have cz_4 : w2.cell? ⟨(w.heap.size + 1 + 1), 4, none⟩ = some (.int .i64 0) := A2_2.c 4 (of_decide_eq_true rfl)
                have gz_4 := A2_2.f 4 (of_decide_eq_true rfl)
                have cz_5 : w2.cell? ⟨(w.heap.size + 1 + 1), 5, none⟩ = some (.int .i64 0) := A2_2.c 5 (of_decide_eq_true rfl)
                have gz_5 := A2_2.f 5 (of_decide_eq_true rfl)
                have l2 := A2_2.lies
                go_wp2_with (with_reducible refine post_stop ?_)
                have A9 := (((((((A2_2.new w.heap.size 3 (by omega) (.int .i64 (cntS i true))).put 0 (of_decide_eq_true rfl) (.int .i64 2) [.int .i64 2, .int .i64 0, .int .i64 0, .int .i64 0, .int .i64 0, .int .i64 0] rfl).put 1 (of_decide_eq_true rfl) (.int .i64 c) [.int .i64 2, .int .i64 c, .int .i64 0, .int .i64 0, .int .i64 0, .int .i64 0] rfl).put 2 (of_decide_eq_true rfl) (.int .i64 g) [.int .i64 2, .int .i64 c, .int .i64 g, .int .i64 0, .int .i64 0, .int .i64 0] rfl).put 3 (of_decide_eq_true rfl) (.int .i64 (cntS i true)) [.int .i64 2, .int .i64 c, .int .i64 g, .int .i64 (cntS i true), .int .i64 0, .int .i64 0] rfl).put 4 (of_decide_eq_true rfl) (.int .i64 (cntS l false)) [.int .i64 2, .int .i64 c, .int .i64 g, .int .i64 (cntS i true), .int .i64 (cntS l false), .int .i64 0] rfl).put 5 (of_decide_eq_true rfl) (.int .i64 f) [.int .i64 2, .int .i64 c, .int .i64 g, .int .i64 (cntS i true), .int .i64 (cntS l false), .int .i64 f] rfl)
                have K9 := (bel_new (bel_new (bel_new (bel_new (bel_new (bel_new (bel_new K2 w.heap.size 3 (by omega) (.int .i64 (cntS i true))) (w.heap.size + 1 + 1) 0 (by omega) (.int .i64 2)) (w.heap.size + 1 + 1) 1 (by omega) (.int .i64 c)) (w.heap.size + 1 + 1) 2 (by omega) (.int .i64 g)) (w.heap.size + 1 + 1) 3 (by omega) (.int .i64 (cntS i true))) (w.heap.size + 1 + 1) 4 (by omega) (.int .i64 (cntS l false))) (w.heap.size + 1 + 1) 5 (by omega) (.int .i64 f))
                clear cp_0 gp_0 cp_1 gp_1 cp_2 gp_2 cp_3 gp_3 cp_4 gp_4 cp_5 gp_5 cs_0 cs_1 cs_2 cs_3 cs_4 cs_5 cs_6 cs_7 cz_0 gz_0 cz_1 gz_1 cz_2 gz_2 cz_3 gz_3 cz_4 gz_4 cz_5 gz_5
                exact ⟨bodyPost_ret (v := .agg #[.int .i64 2, .int .i64 c, .int .i64 g, .int .i64 (cntS i true), .int .i64 (cntS l false), .int .i64 f]) (results_arr Try.results17 A9 rfl (by kernel_rfl) (by kernel_rfl)) rfl ⟨by rw [HS.out], K9⟩⟩
            · have u : ¬ 5 ≤ cntS i false := by show ¬ (5 : Int) ≤ 0; decide
              · have HS : Hid (plV (finS ⟨2, c, g, i, l, f⟩ ⟨gap, true, slow, true, true, false, true, o⟩) = .agg #[.int .i64 2, .int .i64 c, .int .i64 g, .int .i64 (cntS i false), .int .i64 (cntS l false), .int .i64 f]) := by show plV _ = _; first | exact congrArg plV ((if_neg t).trans (if_neg u)) | rfl | exact congrArg plV (if_neg t) | exact congrArg plV (if_neg u) | exact congrArg plV (if_pos u)
                go_enter Try.func17, Try.ntmps17
                go_wp2_with fail
                refine (counted_any l false _ hl).mono ?_
                rintro e w1 ⟨rfl, b1⟩
                have A0_1 : Arr w.heap.size [.int .i64 2, .int .i64 c, .int .i64 g, .int .i64 i, .int .i64 l, .int .i64 f] w1 := (((Arr_at _ w.heap.size [.int .i64 2, .int .i64 c, .int .i64 g, .int .i64 i, .int .i64 l, .int .i64 f] 23 (by simp)).alloc _).alloc _).below b1
                have A1_1 : Arr (w.heap.size + 1) [.bool gap, .bool true, .bool slow, .bool true, .bool true, .bool false, .bool true, .int .i64 o] w1 := ((Arr_at _ (w.heap.size + 1) [.bool gap, .bool true, .bool slow, .bool true, .bool true, .bool false, .bool true, .int .i64 o] 25 (by simp)).alloc _).below b1
                have A2_1 : Arr (w.heap.size + 1 + 1) [.int .i64 0, .int .i64 0, .int .i64 0, .int .i64 0, .int .i64 0, .int .i64 0] w1 := (Arr_at _ (w.heap.size + 1 + 1) [.int .i64 0, .int .i64 0, .int .i64 0, .int .i64 0, .int .i64 0, .int .i64 0] 23 (by simp)).below b1
                have K1 : Below w.heap.size w w1 := bel_then (bel_al (bel_al (bel_al (Below.refl w.heap.size w) _) _) _) b1
                clear b1
                have cp_0 : w1.cell? ⟨w.heap.size, 0, none⟩ = some (.int .i64 2) := A0_1.c 0 (of_decide_eq_true rfl)
                have gp_0 := A0_1.f 0 (of_decide_eq_true rfl)
                have cp_1 : w1.cell? ⟨w.heap.size, 1, none⟩ = some (.int .i64 c) := A0_1.c 1 (of_decide_eq_true rfl)
                have gp_1 := A0_1.f 1 (of_decide_eq_true rfl)
                have cp_2 : w1.cell? ⟨w.heap.size, 2, none⟩ = some (.int .i64 g) := A0_1.c 2 (of_decide_eq_true rfl)
                have gp_2 := A0_1.f 2 (of_decide_eq_true rfl)
                have cp_3 : w1.cell? ⟨w.heap.size, 3, none⟩ = some (.int .i64 i) := A0_1.c 3 (of_decide_eq_true rfl)
                have gp_3 := A0_1.f 3 (of_decide_eq_true rfl)
                have cp_4 : w1.cell? ⟨w.heap.size, 4, none⟩ = some (.int .i64 l) := A0_1.c 4 (of_decide_eq_true rfl)
                have gp_4 := A0_1.f 4 (of_decide_eq_true rfl)
                have cp_5 : w1.cell? ⟨w.heap.size, 5, none⟩ = some (.int .i64 f) := A0_1.c 5 (of_decide_eq_true rfl)
                have gp_5 := A0_1.f 5 (of_decide_eq_true rfl)
                have cs_0 : w1.cell? ⟨(w.heap.size + 1), 0, none⟩ = some (.bool gap) := A1_1.c 0 (of_decide_eq_true rfl)
                have cs_1 : w1.cell? ⟨(w.heap.size + 1), 1, none⟩ = some (.bool true) := A1_1.c 1 (of_decide_eq_true rfl)
                have cs_2 : w1.cell? ⟨(w.heap.size + 1), 2, none⟩ = some (.bool slow) := A1_1.c 2 (of_decide_eq_true rfl)
                have cs_3 : w1.cell? ⟨(w.heap.size + 1), 3, none⟩ = some (.bool true) := A1_1.c 3 (of_decide_eq_true rfl)
                have cs_4 : w1.cell? ⟨(w.heap.size + 1), 4, none⟩ = some (.bool true) := A1_1.c 4 (of_decide_eq_true rfl)
                have cs_5 : w1.cell? ⟨(w.heap.size + 1), 5, none⟩ = some (.bool false) := A1_1.c 5 (of_decide_eq_true rfl)
                have cs_6 : w1.cell? ⟨(w.heap.size + 1), 6, none⟩ = some (.bool true) := A1_1.c 6 (of_decide_eq_true rfl)
                have cs_7 : w1.cell? ⟨(w.heap.size + 1), 7, none⟩ = some (.int .i64 o) := A1_1.c 7 (of_decide_eq_true rfl)
                have cz_0 : w1.cell? ⟨(w.heap.size + 1 + 1), 0, none⟩ = some (.int .i64 0) := A2_1.c 0 (of_decide_eq_true rfl)
                have gz_0 := A2_1.f 0 (of_decide_eq_true rfl)
                have cz_1 : w1.cell? ⟨(w.heap.size + 1 + 1), 1, none⟩ = some (.int .i64 0) := A2_1.c 1 (of_decide_eq_true rfl)
                have gz_1 := A2_1.f 1 (of_decide_eq_true rfl)
                have cz_2 : w1.cell? ⟨(w.heap.size + 1 + 1), 2, none⟩ = some (.int .i64 0) := A2_1.c 2 (of_decide_eq_true rfl)
                have gz_2 := A2_1.f 2 (of_decide_eq_true rfl)
                have cz_3 : w1.cell? ⟨(w.heap.size + 1 + 1), 3, none⟩ = some (.int .i64 0) := A2_1.c 3 (of_decide_eq_true rfl)
                have gz_3 := A2_1.f 3 (of_decide_eq_true rfl)
                have cz_4 : w1.cell? ⟨(w.heap.size + 1 + 1), 4, none⟩ = some (.int .i64 0) := A2_1.c 4 (of_decide_eq_true rfl)
                have gz_4 := A2_1.f 4 (of_decide_eq_true rfl)
                have cz_5 : w1.cell? ⟨(w.heap.size + 1 + 1), 5, none⟩ = some (.int .i64 0) := A2_1.c 5 (of_decide_eq_true rfl)
                have gz_5 := A2_1.f 5 (of_decide_eq_true rfl)
                have l1 := A2_1.lies
                go_wp2_with fail
                refine (counted_any i false _ hi).mono ?_
                rintro e w2 ⟨rfl, b2⟩
                have A0_2 : Arr w.heap.size [.int .i64 2, .int .i64 c, .int .i64 g, .int .i64 i, .int .i64 (cntS l false), .int .i64 f] w2 := (A0_1.put 4 (of_decide_eq_true rfl) (.int .i64 (cntS l false)) [.int .i64 2, .int .i64 c, .int .i64 g, .int .i64 i, .int .i64 (cntS l false), .int .i64 f] rfl).below b2
                have A1_2 : Arr (w.heap.size + 1) [.bool gap, .bool true, .bool slow, .bool true, .bool true, .bool false, .bool true, .int .i64 o] w2 := (A1_1.new w.heap.size 4 (by omega) (.int .i64 (cntS l false))).below b2
                have A2_2 : Arr (w.heap.size + 1 + 1) [.int .i64 0, .int .i64 0, .int .i64 0, .int .i64 0, .int .i64 0, .int .i64 0] w2 := (A2_1.new w.heap.size 4 (by omega) (.int .i64 (cntS l false))).below b2
                have K2 : Below w.heap.size w w2 := bel_then (bel_new K1 w.heap.size 4 (by omega) (.int .i64 (cntS l false))) b2
                clear A0_1 A1_1 A2_1 K1 cp_0 gp_0 cp_1 gp_1 cp_2 gp_2 cp_3 gp_3 cp_4 gp_4 cp_5 gp_5 cs_0 cs_1 cs_2 cs_3 cs_4 cs_5 cs_6 cs_7 cz_0 gz_0 cz_1 gz_1 cz_2 gz_2 cz_3 gz_3 cz_4 gz_4 cz_5 gz_5 l1
                clear b2
                have cp_0 : w2.cell? ⟨w.heap.size, 0, none⟩ = some (.int .i64 2) := A0_2.c 0 (of_decide_eq_true rfl)
                have gp_0 := A0_2.f 0 (of_decide_eq_true rfl)
                have cp_1 : w2.cell? ⟨w.heap.size, 1, none⟩ = some (.int .i64 c) := A0_2.c 1 (of_decide_eq_true rfl)
                have gp_1 := A0_2.f 1 (of_decide_eq_true rfl)
                have cp_2 : w2.cell? ⟨w.heap.size, 2, none⟩ = some (.int .i64 g) := A0_2.c 2 (of_decide_eq_true rfl)
                have gp_2 := A0_2.f 2 (of_decide_eq_true rfl)
                have cp_3 : w2.cell? ⟨w.heap.size, 3, none⟩ = some (.int .i64 i) := A0_2.c 3 (of_decide_eq_true rfl)
                have gp_3 := A0_2.f 3 (of_decide_eq_true rfl)
                have cp_4 : w2.cell? ⟨w.heap.size, 4, none⟩ = some (.int .i64 (cntS l false)) := A0_2.c 4 (of_decide_eq_true rfl)
                have gp_4 := A0_2.f 4 (of_decide_eq_true rfl)
                have cp_5 : w2.cell? ⟨w.heap.size, 5, none⟩ = some (.int .i64 f) := A0_2.c 5 (of_decide_eq_true rfl)
                have gp_5 := A0_2.f 5 (of_decide_eq_true rfl)
                have cs_0 : w2.cell? ⟨(w.heap.size + 1), 0, none⟩ = some (.bool gap) := A1_2.c 0 (of_decide_eq_true rfl)
                have cs_1 : w2.cell? ⟨(w.heap.size + 1), 1, none⟩ = some (.bool true) := A1_2.c 1 (of_decide_eq_true rfl)
                have cs_2 : w2.cell? ⟨(w.heap.size + 1), 2, none⟩ = some (.bool slow) := A1_2.c 2 (of_decide_eq_true rfl)
                have cs_3 : w2.cell? ⟨(w.heap.size + 1), 3, none⟩ = some (.bool true) := A1_2.c 3 (of_decide_eq_true rfl)
                have cs_4 : w2.cell? ⟨(w.heap.size + 1), 4, none⟩ = some (.bool true) := A1_2.c 4 (of_decide_eq_true rfl)
                have cs_5 : w2.cell? ⟨(w.heap.size + 1), 5, none⟩ = some (.bool false) := A1_2.c 5 (of_decide_eq_true rfl)
                have cs_6 : w2.cell? ⟨(w.heap.size + 1), 6, none⟩ = some (.bool true) := A1_2.c 6 (of_decide_eq_true rfl)
                have cs_7 : w2.cell? ⟨(w.heap.size + 1), 7, none⟩ = some (.int .i64 o) := A1_2.c 7 (of_decide_eq_true rfl)
                have cz_0 : w2.cell? ⟨(w.heap.size + 1 + 1), 0, none⟩ = some (.int .i64 0) := A2_2.c 0 (of_decide_eq_true rfl)
                have gz_0 := A2_2.f 0 (of_decide_eq_true rfl)
                have cz_1 : w2.cell? ⟨(w.heap.size + 1 + 1), 1, none⟩ = some (.int .i64 0) := A2_2.c 1 (of_decide_eq_true rfl)
                have gz_1 := A2_2.f 1 (of_decide_eq_true rfl)
                have cz_2 : w2.cell? ⟨(w.heap.size + 1 + 1), 2, none⟩ = some (.int .i64 0) := A2_2.c 2 (of_decide_eq_true rfl)
                have gz_2 := A2_2.f 2 (of_decide_eq_true rfl)
                have cz_3 : w2.cell? ⟨(w.heap.size + 1 + 1), 3, none⟩ = some (.int .i64 0) := A2_2.c 3 (of_decide_eq_true rfl)
                have gz_3 := A2_2.f 3 (of_decide_eq_true rfl)
                have cz_4 : w2.cell? ⟨(w.heap.size + 1 + 1), 4, none⟩ = some (.int .i64 0) := A2_2.c 4 (of_decide_eq_true rfl)
                have gz_4 := A2_2.f 4 (of_decide_eq_true rfl)
                have cz_5 : w2.cell? ⟨(w.heap.size + 1 + 1), 5, none⟩ = some (.int .i64 0) := A2_2.c 5 (of_decide_eq_true rfl)
                have gz_5 := A2_2.f 5 (of_decide_eq_true rfl)
                have l2 := A2_2.lies
                go_wp2_with (with_reducible refine post_stop ?_)
                have A9 := (((((((A2_2.new w.heap.size 3 (by omega) (.int .i64 (cntS i false))).put 0 (of_decide_eq_true rfl) (.int .i64 2) [.int .i64 2, .int .i64 0, .int .i64 0, .int .i64 0, .int .i64 0, .int .i64 0] rfl).put 1 (of_decide_eq_true rfl) (.int .i64 c) [.int .i64 2, .int .i64 c, .int .i64 0, .int .i64 0, .int .i64 0, .int .i64 0] rfl).put 2 (of_decide_eq_true rfl) (.int .i64 g) [.int .i64 2, .int .i64 c, .int .i64 g, .int .i64 0, .int .i64 0, .int .i64 0] rfl).put 3 (of_decide_eq_true rfl) (.int .i64 (cntS i false)) [.int .i64 2, .int .i64 c, .int .i64 g, .int .i64 (cntS i false), .int .i64 0, .int .i64 0] rfl).put 4 (of_decide_eq_true rfl) (.int .i64 (cntS l false)) [.int .i64 2, .int .i64 c, .int .i64 g, .int .i64 (cntS i false), .int .i64 (cntS l false), .int .i64 0] rfl).put 5 (of_decide_eq_true rfl) (.int .i64 f) [.int .i64 2, .int .i64 c, .int .i64 g, .int .i64 (cntS i false), .int .i64 (cntS l false), .int .i64 f] rfl)
                have K9 := (bel_new (bel_new (bel_new (bel_new (bel_new (bel_new (bel_new K2 w.heap.size 3 (by omega) (.int .i64 (cntS i false))) (w.heap.size + 1 + 1) 0 (by omega) (.int .i64 2)) (w.heap.size + 1 + 1) 1 (by omega) (.int .i64 c)) (w.heap.size + 1 + 1) 2 (by omega) (.int .i64 g)) (w.heap.size + 1 + 1) 3 (by omega) (.int .i64 (cntS i false))) (w.heap.size + 1 + 1) 4 (by omega) (.int .i64 (cntS l false))) (w.heap.size + 1 + 1) 5 (by omega) (.int .i64 f))
                clear cp_0 gp_0 cp_1 gp_1 cp_2 gp_2 cp_3 gp_3 cp_4 gp_4 cp_5 gp_5 cs_0 cs_1 cs_2 cs_3 cs_4 cs_5 cs_6 cs_7 cz_0 gz_0 cz_1 gz_1 cz_2 gz_2 cz_3 gz_3 cz_4 gz_4 cz_5 gz_5
                exact ⟨bodyPost_ret (v := .agg #[.int .i64 2, .int .i64 c, .int .i64 g, .int .i64 (cntS i false), .int .i64 (cntS l false), .int .i64 f]) (results_arr Try.results17 A9 rfl (by kernel_rfl) (by kernel_rfl)) rfl ⟨by rw [HS.out], K9⟩⟩
  · have HS : Hid (plV (finS ⟨2, c, g, i, l, f⟩ ⟨gap, gyro, slow, pair, lit, true, pass, o⟩) = .agg #[.int .i64 1, .int .i64 0, .int .i64 0, .int .i64 0, .int .i64 0, .int .i64 (bits .or .i64 f 4)]) := by show plV _ = _; first | exact rfl | rfl | exact congrArg plV (if_neg t) | exact congrArg plV (if_neg u) | exact congrArg plV (if_pos u)
    go_enter Try.func17, Try.ntmps17
    go_wp2_with fail
    refine (fail_any 4 2 c g i l f _ ⟨by decide, by decide⟩ ⟨by decide, by decide⟩ (by decide)).mono ?_
    rintro e w1 ⟨rfl, b1⟩
    have A0_1 : Arr w.heap.size [.int .i64 2, .int .i64 c, .int .i64 g, .int .i64 i, .int .i64 l, .int .i64 f] w1 := (((Arr_at _ w.heap.size [.int .i64 2, .int .i64 c, .int .i64 g, .int .i64 i, .int .i64 l, .int .i64 f] 23 (by simp)).alloc _).alloc _).below b1
    have A1_1 : Arr (w.heap.size + 1) [.bool gap, .bool gyro, .bool slow, .bool pair, .bool lit, .bool true, .bool pass, .int .i64 o] w1 := ((Arr_at _ (w.heap.size + 1) [.bool gap, .bool gyro, .bool slow, .bool pair, .bool lit, .bool true, .bool pass, .int .i64 o] 25 (by simp)).alloc _).below b1
    have A2_1 : Arr (w.heap.size + 1 + 1) [.int .i64 0, .int .i64 0, .int .i64 0, .int .i64 0, .int .i64 0, .int .i64 0] w1 := (Arr_at _ (w.heap.size + 1 + 1) [.int .i64 0, .int .i64 0, .int .i64 0, .int .i64 0, .int .i64 0, .int .i64 0] 23 (by simp)).below b1
    have K1 : Below w.heap.size w w1 := bel_then (bel_al (bel_al (bel_al (Below.refl w.heap.size w) _) _) _) b1
    clear b1
    have cp_0 : w1.cell? ⟨w.heap.size, 0, none⟩ = some (.int .i64 2) := A0_1.c 0 (of_decide_eq_true rfl)
    have gp_0 := A0_1.f 0 (of_decide_eq_true rfl)
    have cp_1 : w1.cell? ⟨w.heap.size, 1, none⟩ = some (.int .i64 c) := A0_1.c 1 (of_decide_eq_true rfl)
    have gp_1 := A0_1.f 1 (of_decide_eq_true rfl)
    have cp_2 : w1.cell? ⟨w.heap.size, 2, none⟩ = some (.int .i64 g) := A0_1.c 2 (of_decide_eq_true rfl)
    have gp_2 := A0_1.f 2 (of_decide_eq_true rfl)
    have cp_3 : w1.cell? ⟨w.heap.size, 3, none⟩ = some (.int .i64 i) := A0_1.c 3 (of_decide_eq_true rfl)
    have gp_3 := A0_1.f 3 (of_decide_eq_true rfl)
    have cp_4 : w1.cell? ⟨w.heap.size, 4, none⟩ = some (.int .i64 l) := A0_1.c 4 (of_decide_eq_true rfl)
    have gp_4 := A0_1.f 4 (of_decide_eq_true rfl)
    have cp_5 : w1.cell? ⟨w.heap.size, 5, none⟩ = some (.int .i64 f) := A0_1.c 5 (of_decide_eq_true rfl)
    have gp_5 := A0_1.f 5 (of_decide_eq_true rfl)
    have cs_0 : w1.cell? ⟨(w.heap.size + 1), 0, none⟩ = some (.bool gap) := A1_1.c 0 (of_decide_eq_true rfl)
    have cs_1 : w1.cell? ⟨(w.heap.size + 1), 1, none⟩ = some (.bool gyro) := A1_1.c 1 (of_decide_eq_true rfl)
    have cs_2 : w1.cell? ⟨(w.heap.size + 1), 2, none⟩ = some (.bool slow) := A1_1.c 2 (of_decide_eq_true rfl)
    have cs_3 : w1.cell? ⟨(w.heap.size + 1), 3, none⟩ = some (.bool pair) := A1_1.c 3 (of_decide_eq_true rfl)
    have cs_4 : w1.cell? ⟨(w.heap.size + 1), 4, none⟩ = some (.bool lit) := A1_1.c 4 (of_decide_eq_true rfl)
    have cs_5 : w1.cell? ⟨(w.heap.size + 1), 5, none⟩ = some (.bool true) := A1_1.c 5 (of_decide_eq_true rfl)
    have cs_6 : w1.cell? ⟨(w.heap.size + 1), 6, none⟩ = some (.bool pass) := A1_1.c 6 (of_decide_eq_true rfl)
    have cs_7 : w1.cell? ⟨(w.heap.size + 1), 7, none⟩ = some (.int .i64 o) := A1_1.c 7 (of_decide_eq_true rfl)
    have cz_0 : w1.cell? ⟨(w.heap.size + 1 + 1), 0, none⟩ = some (.int .i64 0) := A2_1.c 0 (of_decide_eq_true rfl)
    have gz_0 := A2_1.f 0 (of_decide_eq_true rfl)
    have cz_1 : w1.cell? ⟨(w.heap.size + 1 + 1), 1, none⟩ = some (.int .i64 0) := A2_1.c 1 (of_decide_eq_true rfl)
    have gz_1 := A2_1.f 1 (of_decide_eq_true rfl)
    have cz_2 : w1.cell? ⟨(w.heap.size + 1 + 1), 2, none⟩ = some (.int .i64 0) := A2_1.c 2 (of_decide_eq_true rfl)
    have gz_2 := A2_1.f 2 (of_decide_eq_true rfl)
    have cz_3 : w1.cell? ⟨(w.heap.size + 1 + 1), 3, none⟩ = some (.int .i64 0) := A2_1.c 3 (of_decide_eq_true rfl)
    have gz_3 := A2_1.f 3 (of_decide_eq_true rfl)
    have cz_4 : w1.cell? ⟨(w.heap.size + 1 + 1), 4, none⟩ = some (.int .i64 0) := A2_1.c 4 (of_decide_eq_true rfl)
    have gz_4 := A2_1.f 4 (of_decide_eq_true rfl)
    have cz_5 : w1.cell? ⟨(w.heap.size + 1 + 1), 5, none⟩ = some (.int .i64 0) := A2_1.c 5 (of_decide_eq_true rfl)
    have gz_5 := A2_1.f 5 (of_decide_eq_true rfl)
    have l1 := A2_1.lies
    go_wp2_with (with_reducible refine post_stop ?_)
    have A9 := ((((((A2_1.put 0 (of_decide_eq_true rfl) (.int .i64 1) [.int .i64 1, .int .i64 0, .int .i64 0, .int .i64 0, .int .i64 0, .int .i64 0] rfl).put 1 (of_decide_eq_true rfl) (.int .i64 0) [.int .i64 1, .int .i64 0, .int .i64 0, .int .i64 0, .int .i64 0, .int .i64 0] rfl).put 2 (of_decide_eq_true rfl) (.int .i64 0) [.int .i64 1, .int .i64 0, .int .i64 0, .int .i64 0, .int .i64 0, .int .i64 0] rfl).put 3 (of_decide_eq_true rfl) (.int .i64 0) [.int .i64 1, .int .i64 0, .int .i64 0, .int .i64 0, .int .i64 0, .int .i64 0] rfl).put 4 (of_decide_eq_true rfl) (.int .i64 0) [.int .i64 1, .int .i64 0, .int .i64 0, .int .i64 0, .int .i64 0, .int .i64 0] rfl).put 5 (of_decide_eq_true rfl) (.int .i64 (bits .or .i64 f 4)) [.int .i64 1, .int .i64 0, .int .i64 0, .int .i64 0, .int .i64 0, .int .i64 (bits .or .i64 f 4)] rfl)
    have K9 := (bel_new (bel_new (bel_new (bel_new (bel_new (bel_new K1 (w.heap.size + 1 + 1) 0 (by omega) (.int .i64 1)) (w.heap.size + 1 + 1) 1 (by omega) (.int .i64 0)) (w.heap.size + 1 + 1) 2 (by omega) (.int .i64 0)) (w.heap.size + 1 + 1) 3 (by omega) (.int .i64 0)) (w.heap.size + 1 + 1) 4 (by omega) (.int .i64 0)) (w.heap.size + 1 + 1) 5 (by omega) (.int .i64 (bits .or .i64 f 4)))
    clear cp_0 gp_0 cp_1 gp_1 cp_2 gp_2 cp_3 gp_3 cp_4 gp_4 cp_5 gp_5 cs_0 cs_1 cs_2 cs_3 cs_4 cs_5 cs_6 cs_7 cz_0 gz_0 cz_1 gz_1 cz_2 gz_2 cz_3 gz_3 cz_4 gz_4 cz_5 gz_5
    exact ⟨bodyPost_ret (v := .agg #[.int .i64 1, .int .i64 0, .int .i64 0, .int .i64 0, .int .i64 0, .int .i64 (bits .or .i64 f 4)]) (results_arr Try.results17 A9 rfl (by kernel_rfl) (by kernel_rfl)) rfl ⟨by rw [HS.out], K9⟩⟩
end Go.Proofs.Ytocnaflhedccpaa
