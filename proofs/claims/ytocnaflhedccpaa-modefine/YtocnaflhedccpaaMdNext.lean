/-
  The walk of mode.Next, for the seat Ytocnaflhedccpaa. (Made by mkmode.py.)
-/
import Derived.Test.YtocnaflhedccpaaMdCode
namespace Go.Proofs.Ytocnaflhedccpaa
open Go.RowKit

set_option maxRecDepth 100000 in
set_option maxHeartbeats 4000000 in
theorem next_any (m c g i l f : Int) (gap gyro slow pair lit bad pass : Bool) (o : Int) (w : World) (hc : I64 c) (hg : I64 g) (hi : I64 i) (hl : I64 l) : Calls Try.prog 9 #[.agg #[.int .i64 m, .int .i64 c, .int .i64 g, .int .i64 i, .int .i64 l, .int .i64 f], .agg #[.bool gap, .bool gyro, .bool slow, .bool pair, .bool lit, .bool bad, .bool pass, .int .i64 o]] w fun e w' => e = .returned (plV (nextS ⟨m, c, g, i, l, f⟩ ⟨gap, gyro, slow, pair, lit, bad, pass, o⟩)) ∧ Below w.heap.size w w' := by
  by_cases ho : o = 1
  · subst ho
    have HS : Hid (plV (nextS ⟨m, c, g, i, l, f⟩ ⟨gap, gyro, slow, pair, lit, bad, pass, 1⟩) = .agg #[.int .i64 3, .int .i64 0, .int .i64 0, .int .i64 0, .int .i64 0, .int .i64 f]) := by show plV _ = _; first | exact rfl | rfl | exact congrArg plV (if_neg ho) | exact congrArg plV (if_neg t) | exact congrArg plV (if_neg u) | exact congrArg plV (if_pos u)
    go_enter Try.func9, Try.ntmps9
    go_wp2_with fail
    refine (goTo_any 3 (m) (c) (g) (i) (l) (f) _).mono ?_
    rintro e w1 ⟨rfl, b1⟩
    have A0_1 : Arr w.heap.size [.int .i64 m, .int .i64 c, .int .i64 g, .int .i64 i, .int .i64 l, .int .i64 f] w1 := (((Arr_at _ w.heap.size [.int .i64 m, .int .i64 c, .int .i64 g, .int .i64 i, .int .i64 l, .int .i64 f] 23 (by simp)).alloc _).alloc _).below b1
    have A1_1 : Arr (w.heap.size + 1) [.bool gap, .bool gyro, .bool slow, .bool pair, .bool lit, .bool bad, .bool pass, .int .i64 1] w1 := ((Arr_at _ (w.heap.size + 1) [.bool gap, .bool gyro, .bool slow, .bool pair, .bool lit, .bool bad, .bool pass, .int .i64 1] 25 (by simp)).alloc _).below b1
    have A2_1 : Arr (w.heap.size + 1 + 1) [.int .i64 0, .int .i64 0, .int .i64 0, .int .i64 0, .int .i64 0, .int .i64 0] w1 := (Arr_at _ (w.heap.size + 1 + 1) [.int .i64 0, .int .i64 0, .int .i64 0, .int .i64 0, .int .i64 0, .int .i64 0] 23 (by simp)).below b1
    have K1 : Below w.heap.size w w1 := bel_then (bel_al (bel_al (bel_al (Below.refl w.heap.size w) _) _) _) b1
    clear b1
    have cp_0 : w1.cell? ⟨w.heap.size, 0, none⟩ = some (.int .i64 m) := A0_1.c 0 (of_decide_eq_true rfl)
    have gp_0 := A0_1.f 0 (of_decide_eq_true rfl)
    have cp_1 : w1.cell? ⟨w.heap.size, 1, none⟩ = some (.int .i64 c) := A0_1.c 1 (of_decide_eq_true rfl)
    have gp_1 := A0_1.f 1 (of_decide_eq_true rfl)
    have cp_2 : w1.cell? ⟨w.heap.size, 2, none⟩ = some (.int .i64 g) := A0_1.c 2 (of_decide_eq_true rfl)
    have gp_2 := A0_1.f 2 (of_decide_eq_true rfl)
    have cp_3 : w1.cell? ⟨w.heap.size, 3, none⟩ = some (.int .i64 i) := A0_1.c 3 (of_decide_eq_true rfl)
    have gp_3 := A0_1.f 3 (of_decide_eq_true rfl)
    have cp_4 : w1.cell? ⟨w.heap.size, 4, none⟩ = some (.int .i64 l) := A0_1.c 4 (of_decide_eq_true rfl)
    have gp_4 := A0_1.f 4 (of_decide_eq_true rfl)
    have cp_5 : w1.cell? ⟨w.heap.size, 5, none⟩ = some (.int .i64 f) := A0_1.c 5 (of_decide_eq_true rfl)
    have gp_5 := A0_1.f 5 (of_decide_eq_true rfl)
    have cs_0 : w1.cell? ⟨(w.heap.size + 1), 0, none⟩ = some (.bool gap) := A1_1.c 0 (of_decide_eq_true rfl)
    have cs_1 : w1.cell? ⟨(w.heap.size + 1), 1, none⟩ = some (.bool gyro) := A1_1.c 1 (of_decide_eq_true rfl)
    have cs_2 : w1.cell? ⟨(w.heap.size + 1), 2, none⟩ = some (.bool slow) := A1_1.c 2 (of_decide_eq_true rfl)
    have cs_3 : w1.cell? ⟨(w.heap.size + 1), 3, none⟩ = some (.bool pair) := A1_1.c 3 (of_decide_eq_true rfl)
    have cs_4 : w1.cell? ⟨(w.heap.size + 1), 4, none⟩ = some (.bool lit) := A1_1.c 4 (of_decide_eq_true rfl)
    have cs_5 : w1.cell? ⟨(w.heap.size + 1), 5, none⟩ = some (.bool bad) := A1_1.c 5 (of_decide_eq_true rfl)
    have cs_6 : w1.cell? ⟨(w.heap.size + 1), 6, none⟩ = some (.bool pass) := A1_1.c 6 (of_decide_eq_true rfl)
    have cs_7 : w1.cell? ⟨(w.heap.size + 1), 7, none⟩ = some (.int .i64 1) := A1_1.c 7 (of_decide_eq_true rfl)
    have cz_0 : w1.cell? ⟨(w.heap.size + 1 + 1), 0, none⟩ = some (.int .i64 0) := A2_1.c 0 (of_decide_eq_true rfl)
    have gz_0 := A2_1.f 0 (of_decide_eq_true rfl)
    have cz_1 : w1.cell? ⟨(w.heap.size + 1 + 1), 1, none⟩ = some (.int .i64 0) := A2_1.c 1 (of_decide_eq_true rfl)
    have gz_1 := A2_1.f 1 (of_decide_eq_true rfl)
    have cz_2 : w1.cell? ⟨(w.heap.size + 1 + 1), 2, none⟩ = some (.int .i64 0) := A2_1.c 2 (of_decide_eq_true rfl)
    have gz_2 := A2_1.f 2 (of_decide_eq_true rfl)
    have cz_3 : w1.cell? ⟨(w.heap.size + 1 + 1), 3, none⟩ = some (.int .i64 0) := A2_1.c 3 (of_decide_eq_true rfl)
    have gz_3 := A2_1.f 3 (of_decide_eq_true rfl)
    have cz_4 : w1.cell? ⟨(w.heap.size + 1 + 1), 4, none⟩ = some (.int .i64 0) := A2_1.c 4 (of_decide_eq_true rfl)
    have gz_4 := A2_1.f 4 (of_decide_eq_true rfl)
    have cz_5 : w1.cell? ⟨(w.heap.size + 1 + 1), 5, none⟩ = some (.int .i64 0) := A2_1.c 5 (of_decide_eq_true rfl)
    have gz_5 := A2_1.f 5 (of_decide_eq_true rfl)
    have zz1 := A2_1.lies
    go_wp2_with (with_reducible refine post_stop ?_)
    have A9 := ((((((A2_1.put 0 (of_decide_eq_true rfl) (.int .i64 3) [.int .i64 3, .int .i64 0, .int .i64 0, .int .i64 0, .int .i64 0, .int .i64 0] rfl).put 1 (of_decide_eq_true rfl) (.int .i64 0) [.int .i64 3, .int .i64 0, .int .i64 0, .int .i64 0, .int .i64 0, .int .i64 0] rfl).put 2 (of_decide_eq_true rfl) (.int .i64 0) [.int .i64 3, .int .i64 0, .int .i64 0, .int .i64 0, .int .i64 0, .int .i64 0] rfl).put 3 (of_decide_eq_true rfl) (.int .i64 0) [.int .i64 3, .int .i64 0, .int .i64 0, .int .i64 0, .int .i64 0, .int .i64 0] rfl).put 4 (of_decide_eq_true rfl) (.int .i64 0) [.int .i64 3, .int .i64 0, .int .i64 0, .int .i64 0, .int .i64 0, .int .i64 0] rfl).put 5 (of_decide_eq_true rfl) (.int .i64 f) [.int .i64 3, .int .i64 0, .int .i64 0, .int .i64 0, .int .i64 0, .int .i64 f] rfl)
    have K9 := (bel_new (bel_new (bel_new (bel_new (bel_new (bel_new K1 (w.heap.size + 1 + 1) 0 (by omega) (.int .i64 3)) (w.heap.size + 1 + 1) 1 (by omega) (.int .i64 0)) (w.heap.size + 1 + 1) 2 (by omega) (.int .i64 0)) (w.heap.size + 1 + 1) 3 (by omega) (.int .i64 0)) (w.heap.size + 1 + 1) 4 (by omega) (.int .i64 0)) (w.heap.size + 1 + 1) 5 (by omega) (.int .i64 f))
    clear cp_0 gp_0 cp_1 gp_1 cp_2 gp_2 cp_3 gp_3 cp_4 gp_4 cp_5 gp_5 cs_0 cs_1 cs_2 cs_3 cs_4 cs_5 cs_6 cs_7 cz_0 gz_0 cz_1 gz_1 cz_2 gz_2 cz_3 gz_3 cz_4 gz_4 cz_5 gz_5
    exact ⟨bodyPost_ret (v := .agg #[.int .i64 3, .int .i64 0, .int .i64 0, .int .i64 0, .int .i64 0, .int .i64 f]) (results_arr Try.results9 A9 rfl (by kernel_rfl) (by kernel_rfl)) rfl ⟨by rw [HS.out], K9⟩⟩
  · by_cases h3 : m = 3
    · subst h3
      obtain ⟨q, hq⟩ : ∃ q, q = safeS ⟨3, c, g, i, l, f⟩ ⟨gap, gyro, slow, pair, lit, bad, pass, o⟩ := ⟨_, rfl⟩
      have hk := fun W => safe_any 3 c g i l f gap gyro slow pair lit bad pass o W
      rw [← hq] at hk
      have HS : Hid (plV (nextS ⟨3, c, g, i, l, f⟩ ⟨gap, gyro, slow, pair, lit, bad, pass, o⟩) = plV q) := by rw [hq]; exact congrArg plV ((if_neg ho).trans (if_pos rfl))
      clear hq
      obtain ⟨m1, c1, g1, i1, l1, f1⟩ := q
      unfold plV at hk
      replace HS : Hid (plV (nextS ⟨3, c, g, i, l, f⟩ ⟨gap, gyro, slow, pair, lit, bad, pass, o⟩) = .agg #[.int .i64 m1, .int .i64 c1, .int .i64 g1, .int .i64 i1, .int .i64 l1, .int .i64 f1]) := HS
      go_enter Try.func9, Try.ntmps9
      go_wp2_with fail
      refine (hk _).mono ?_
      rintro e w1 ⟨rfl, b1⟩
      have A0_1 : Arr w.heap.size [.int .i64 3, .int .i64 c, .int .i64 g, .int .i64 i, .int .i64 l, .int .i64 f] w1 := (((Arr_at _ w.heap.size [.int .i64 3, .int .i64 c, .int .i64 g, .int .i64 i, .int .i64 l, .int .i64 f] 23 (by simp)).alloc _).alloc _).below b1
      have A1_1 : Arr (w.heap.size + 1) [.bool gap, .bool gyro, .bool slow, .bool pair, .bool lit, .bool bad, .bool pass, .int .i64 o] w1 := ((Arr_at _ (w.heap.size + 1) [.bool gap, .bool gyro, .bool slow, .bool pair, .bool lit, .bool bad, .bool pass, .int .i64 o] 25 (by simp)).alloc _).below b1
      have A2_1 : Arr (w.heap.size + 1 + 1) [.int .i64 0, .int .i64 0, .int .i64 0, .int .i64 0, .int .i64 0, .int .i64 0] w1 := (Arr_at _ (w.heap.size + 1 + 1) [.int .i64 0, .int .i64 0, .int .i64 0, .int .i64 0, .int .i64 0, .int .i64 0] 23 (by simp)).below b1
      have K1 : Below w.heap.size w w1 := bel_then (bel_al (bel_al (bel_al (Below.refl w.heap.size w) _) _) _) b1
      clear b1
      have cp_0 : w1.cell? ⟨w.heap.size, 0, none⟩ = some (.int .i64 3) := A0_1.c 0 (of_decide_eq_true rfl)
      have gp_0 := A0_1.f 0 (of_decide_eq_true rfl)
      have cp_1 : w1.cell? ⟨w.heap.size, 1, none⟩ = some (.int .i64 c) := A0_1.c 1 (of_decide_eq_true rfl)
      have gp_1 := A0_1.f 1 (of_decide_eq_true rfl)
      have cp_2 : w1.cell? ⟨w.heap.size, 2, none⟩ = some (.int .i64 g) := A0_1.c 2 (of_decide_eq_true rfl)
      have gp_2 := A0_1.f 2 (of_decide_eq_true rfl)
      have cp_3 : w1.cell? ⟨w.heap.size, 3, none⟩ = some (.int .i64 i) := A0_1.c 3 (of_decide_eq_true rfl)
      have gp_3 := A0_1.f 3 (of_decide_eq_true rfl)
      have cp_4 : w1.cell? ⟨w.heap.size, 4, none⟩ = some (.int .i64 l) := A0_1.c 4 (of_decide_eq_true rfl)
      have gp_4 := A0_1.f 4 (of_decide_eq_true rfl)
      have cp_5 : w1.cell? ⟨w.heap.size, 5, none⟩ = some (.int .i64 f) := A0_1.c 5 (of_decide_eq_true rfl)
      have gp_5 := A0_1.f 5 (of_decide_eq_true rfl)
      have cs_0 : w1.cell? ⟨(w.heap.size + 1), 0, none⟩ = some (.bool gap) := A1_1.c 0 (of_decide_eq_true rfl)
      have cs_1 : w1.cell? ⟨(w.heap.size + 1), 1, none⟩ = some (.bool gyro) := A1_1.c 1 (of_decide_eq_true rfl)
      have cs_2 : w1.cell? ⟨(w.heap.size + 1), 2, none⟩ = some (.bool slow) := A1_1.c 2 (of_decide_eq_true rfl)
      have cs_3 : w1.cell? ⟨(w.heap.size + 1), 3, none⟩ = some (.bool pair) := A1_1.c 3 (of_decide_eq_true rfl)
      have cs_4 : w1.cell? ⟨(w.heap.size + 1), 4, none⟩ = some (.bool lit) := A1_1.c 4 (of_decide_eq_true rfl)
      have cs_5 : w1.cell? ⟨(w.heap.size + 1), 5, none⟩ = some (.bool bad) := A1_1.c 5 (of_decide_eq_true rfl)
      have cs_6 : w1.cell? ⟨(w.heap.size + 1), 6, none⟩ = some (.bool pass) := A1_1.c 6 (of_decide_eq_true rfl)
      have cs_7 : w1.cell? ⟨(w.heap.size + 1), 7, none⟩ = some (.int .i64 o) := A1_1.c 7 (of_decide_eq_true rfl)
      have cz_0 : w1.cell? ⟨(w.heap.size + 1 + 1), 0, none⟩ = some (.int .i64 0) := A2_1.c 0 (of_decide_eq_true rfl)
      have gz_0 := A2_1.f 0 (of_decide_eq_true rfl)
      have cz_1 : w1.cell? ⟨(w.heap.size + 1 + 1), 1, none⟩ = some (.int .i64 0) := A2_1.c 1 (of_decide_eq_true rfl)
      have gz_1 := A2_1.f 1 (of_decide_eq_true rfl)
      have cz_2 : w1.cell? ⟨(w.heap.size + 1 + 1), 2, none⟩ = some (.int .i64 0) := A2_1.c 2 (of_decide_eq_true rfl)
      have gz_2 := A2_1.f 2 (of_decide_eq_true rfl)
      have cz_3 : w1.cell? ⟨(w.heap.size + 1 + 1), 3, none⟩ = some (.int .i64 0) := A2_1.c 3 (of_decide_eq_true rfl)
      have gz_3 := A2_1.f 3 (of_decide_eq_true rfl)
      have cz_4 : w1.cell? ⟨(w.heap.size + 1 + 1), 4, none⟩ = some (.int .i64 0) := A2_1.c 4 (of_decide_eq_true rfl)
      have gz_4 := A2_1.f 4 (of_decide_eq_true rfl)
      have cz_5 : w1.cell? ⟨(w.heap.size + 1 + 1), 5, none⟩ = some (.int .i64 0) := A2_1.c 5 (of_decide_eq_true rfl)
      have gz_5 := A2_1.f 5 (of_decide_eq_true rfl)
      have zz1 := A2_1.lies
      go_wp2_with (with_reducible refine post_stop ?_)
      have A9 := ((((((A2_1.put 0 (of_decide_eq_true rfl) (.int .i64 m1) [.int .i64 m1, .int .i64 0, .int .i64 0, .int .i64 0, .int .i64 0, .int .i64 0] rfl).put 1 (of_decide_eq_true rfl) (.int .i64 c1) [.int .i64 m1, .int .i64 c1, .int .i64 0, .int .i64 0, .int .i64 0, .int .i64 0] rfl).put 2 (of_decide_eq_true rfl) (.int .i64 g1) [.int .i64 m1, .int .i64 c1, .int .i64 g1, .int .i64 0, .int .i64 0, .int .i64 0] rfl).put 3 (of_decide_eq_true rfl) (.int .i64 i1) [.int .i64 m1, .int .i64 c1, .int .i64 g1, .int .i64 i1, .int .i64 0, .int .i64 0] rfl).put 4 (of_decide_eq_true rfl) (.int .i64 l1) [.int .i64 m1, .int .i64 c1, .int .i64 g1, .int .i64 i1, .int .i64 l1, .int .i64 0] rfl).put 5 (of_decide_eq_true rfl) (.int .i64 f1) [.int .i64 m1, .int .i64 c1, .int .i64 g1, .int .i64 i1, .int .i64 l1, .int .i64 f1] rfl)
      have K9 := (bel_new (bel_new (bel_new (bel_new (bel_new (bel_new K1 (w.heap.size + 1 + 1) 0 (by omega) (.int .i64 m1)) (w.heap.size + 1 + 1) 1 (by omega) (.int .i64 c1)) (w.heap.size + 1 + 1) 2 (by omega) (.int .i64 g1)) (w.heap.size + 1 + 1) 3 (by omega) (.int .i64 i1)) (w.heap.size + 1 + 1) 4 (by omega) (.int .i64 l1)) (w.heap.size + 1 + 1) 5 (by omega) (.int .i64 f1))
      clear cp_0 gp_0 cp_1 gp_1 cp_2 gp_2 cp_3 gp_3 cp_4 gp_4 cp_5 gp_5 cs_0 cs_1 cs_2 cs_3 cs_4 cs_5 cs_6 cs_7 cz_0 gz_0 cz_1 gz_1 cz_2 gz_2 cz_3 gz_3 cz_4 gz_4 cz_5 gz_5
      exact ⟨bodyPost_ret (v := .agg #[.int .i64 m1, .int .i64 c1, .int .i64 g1, .int .i64 i1, .int .i64 l1, .int .i64 f1]) (results_arr Try.results9 A9 rfl (by kernel_rfl) (by kernel_rfl)) rfl ⟨by rw [HS.out], K9⟩⟩
    · by_cases h0 : m = 0
      · subst h0
        obtain ⟨q, hq⟩ : ∃ q, q = detS ⟨0, c, g, i, l, f⟩ ⟨gap, gyro, slow, pair, lit, bad, pass, o⟩ := ⟨_, rfl⟩
        have hk := fun W => det_any 0 c g i l f gap gyro slow pair lit bad pass o W hc
        rw [← hq] at hk
        have HS : Hid (plV (nextS ⟨0, c, g, i, l, f⟩ ⟨gap, gyro, slow, pair, lit, bad, pass, o⟩) = plV q) := by rw [hq]; exact congrArg plV ((if_neg ho).trans ((if_neg (show ¬ (0 : Int) = 3 by decide)).trans (if_pos rfl)))
        clear hq
        obtain ⟨m1, c1, g1, i1, l1, f1⟩ := q
        unfold plV at hk
        replace HS : Hid (plV (nextS ⟨0, c, g, i, l, f⟩ ⟨gap, gyro, slow, pair, lit, bad, pass, o⟩) = .agg #[.int .i64 m1, .int .i64 c1, .int .i64 g1, .int .i64 i1, .int .i64 l1, .int .i64 f1]) := HS
        go_enter Try.func9, Try.ntmps9
        go_wp2_with fail
        refine (hk _).mono ?_
        rintro e w1 ⟨rfl, b1⟩
        have A0_1 : Arr w.heap.size [.int .i64 0, .int .i64 c, .int .i64 g, .int .i64 i, .int .i64 l, .int .i64 f] w1 := (((Arr_at _ w.heap.size [.int .i64 0, .int .i64 c, .int .i64 g, .int .i64 i, .int .i64 l, .int .i64 f] 23 (by simp)).alloc _).alloc _).below b1
        have A1_1 : Arr (w.heap.size + 1) [.bool gap, .bool gyro, .bool slow, .bool pair, .bool lit, .bool bad, .bool pass, .int .i64 o] w1 := ((Arr_at _ (w.heap.size + 1) [.bool gap, .bool gyro, .bool slow, .bool pair, .bool lit, .bool bad, .bool pass, .int .i64 o] 25 (by simp)).alloc _).below b1
        have A2_1 : Arr (w.heap.size + 1 + 1) [.int .i64 0, .int .i64 0, .int .i64 0, .int .i64 0, .int .i64 0, .int .i64 0] w1 := (Arr_at _ (w.heap.size + 1 + 1) [.int .i64 0, .int .i64 0, .int .i64 0, .int .i64 0, .int .i64 0, .int .i64 0] 23 (by simp)).below b1
        have K1 : Below w.heap.size w w1 := bel_then (bel_al (bel_al (bel_al (Below.refl w.heap.size w) _) _) _) b1
        clear b1
        have cp_0 : w1.cell? ⟨w.heap.size, 0, none⟩ = some (.int .i64 0) := A0_1.c 0 (of_decide_eq_true rfl)
        have gp_0 := A0_1.f 0 (of_decide_eq_true rfl)
        have cp_1 : w1.cell? ⟨w.heap.size, 1, none⟩ = some (.int .i64 c) := A0_1.c 1 (of_decide_eq_true rfl)
        have gp_1 := A0_1.f 1 (of_decide_eq_true rfl)
        have cp_2 : w1.cell? ⟨w.heap.size, 2, none⟩ = some (.int .i64 g) := A0_1.c 2 (of_decide_eq_true rfl)
        have gp_2 := A0_1.f 2 (of_decide_eq_true rfl)
        have cp_3 : w1.cell? ⟨w.heap.size, 3, none⟩ = some (.int .i64 i) := A0_1.c 3 (of_decide_eq_true rfl)
        have gp_3 := A0_1.f 3 (of_decide_eq_true rfl)
        have cp_4 : w1.cell? ⟨w.heap.size, 4, none⟩ = some (.int .i64 l) := A0_1.c 4 (of_decide_eq_true rfl)
        have gp_4 := A0_1.f 4 (of_decide_eq_true rfl)
        have cp_5 : w1.cell? ⟨w.heap.size, 5, none⟩ = some (.int .i64 f) := A0_1.c 5 (of_decide_eq_true rfl)
        have gp_5 := A0_1.f 5 (of_decide_eq_true rfl)
        have cs_0 : w1.cell? ⟨(w.heap.size + 1), 0, none⟩ = some (.bool gap) := A1_1.c 0 (of_decide_eq_true rfl)
        have cs_1 : w1.cell? ⟨(w.heap.size + 1), 1, none⟩ = some (.bool gyro) := A1_1.c 1 (of_decide_eq_true rfl)
        have cs_2 : w1.cell? ⟨(w.heap.size + 1), 2, none⟩ = some (.bool slow) := A1_1.c 2 (of_decide_eq_true rfl)
        have cs_3 : w1.cell? ⟨(w.heap.size + 1), 3, none⟩ = some (.bool pair) := A1_1.c 3 (of_decide_eq_true rfl)
        have cs_4 : w1.cell? ⟨(w.heap.size + 1), 4, none⟩ = some (.bool lit) := A1_1.c 4 (of_decide_eq_true rfl)
        have cs_5 : w1.cell? ⟨(w.heap.size + 1), 5, none⟩ = some (.bool bad) := A1_1.c 5 (of_decide_eq_true rfl)
        have cs_6 : w1.cell? ⟨(w.heap.size + 1), 6, none⟩ = some (.bool pass) := A1_1.c 6 (of_decide_eq_true rfl)
        have cs_7 : w1.cell? ⟨(w.heap.size + 1), 7, none⟩ = some (.int .i64 o) := A1_1.c 7 (of_decide_eq_true rfl)
        have cz_0 : w1.cell? ⟨(w.heap.size + 1 + 1), 0, none⟩ = some (.int .i64 0) := A2_1.c 0 (of_decide_eq_true rfl)
        have gz_0 := A2_1.f 0 (of_decide_eq_true rfl)
        have cz_1 : w1.cell? ⟨(w.heap.size + 1 + 1), 1, none⟩ = some (.int .i64 0) := A2_1.c 1 (of_decide_eq_true rfl)
        have gz_1 := A2_1.f 1 (of_decide_eq_true rfl)
        have cz_2 : w1.cell? ⟨(w.heap.size + 1 + 1), 2, none⟩ = some (.int .i64 0) := A2_1.c 2 (of_decide_eq_true rfl)
        have gz_2 := A2_1.f 2 (of_decide_eq_true rfl)
        have cz_3 : w1.cell? ⟨(w.heap.size + 1 + 1), 3, none⟩ = some (.int .i64 0) := A2_1.c 3 (of_decide_eq_true rfl)
        have gz_3 := A2_1.f 3 (of_decide_eq_true rfl)
        have cz_4 : w1.cell? ⟨(w.heap.size + 1 + 1), 4, none⟩ = some (.int .i64 0) := A2_1.c 4 (of_decide_eq_true rfl)
        have gz_4 := A2_1.f 4 (of_decide_eq_true rfl)
        have cz_5 : w1.cell? ⟨(w.heap.size + 1 + 1), 5, none⟩ = some (.int .i64 0) := A2_1.c 5 (of_decide_eq_true rfl)
        have gz_5 := A2_1.f 5 (of_decide_eq_true rfl)
        have zz1 := A2_1.lies
        go_wp2_with (with_reducible refine post_stop ?_)
        have A9 := ((((((A2_1.put 0 (of_decide_eq_true rfl) (.int .i64 m1) [.int .i64 m1, .int .i64 0, .int .i64 0, .int .i64 0, .int .i64 0, .int .i64 0] rfl).put 1 (of_decide_eq_true rfl) (.int .i64 c1) [.int .i64 m1, .int .i64 c1, .int .i64 0, .int .i64 0, .int .i64 0, .int .i64 0] rfl).put 2 (of_decide_eq_true rfl) (.int .i64 g1) [.int .i64 m1, .int .i64 c1, .int .i64 g1, .int .i64 0, .int .i64 0, .int .i64 0] rfl).put 3 (of_decide_eq_true rfl) (.int .i64 i1) [.int .i64 m1, .int .i64 c1, .int .i64 g1, .int .i64 i1, .int .i64 0, .int .i64 0] rfl).put 4 (of_decide_eq_true rfl) (.int .i64 l1) [.int .i64 m1, .int .i64 c1, .int .i64 g1, .int .i64 i1, .int .i64 l1, .int .i64 0] rfl).put 5 (of_decide_eq_true rfl) (.int .i64 f1) [.int .i64 m1, .int .i64 c1, .int .i64 g1, .int .i64 i1, .int .i64 l1, .int .i64 f1] rfl)
        have K9 := (bel_new (bel_new (bel_new (bel_new (bel_new (bel_new K1 (w.heap.size + 1 + 1) 0 (by omega) (.int .i64 m1)) (w.heap.size + 1 + 1) 1 (by omega) (.int .i64 c1)) (w.heap.size + 1 + 1) 2 (by omega) (.int .i64 g1)) (w.heap.size + 1 + 1) 3 (by omega) (.int .i64 i1)) (w.heap.size + 1 + 1) 4 (by omega) (.int .i64 l1)) (w.heap.size + 1 + 1) 5 (by omega) (.int .i64 f1))
        clear cp_0 gp_0 cp_1 gp_1 cp_2 gp_2 cp_3 gp_3 cp_4 gp_4 cp_5 gp_5 cs_0 cs_1 cs_2 cs_3 cs_4 cs_5 cs_6 cs_7 cz_0 gz_0 cz_1 gz_1 cz_2 gz_2 cz_3 gz_3 cz_4 gz_4 cz_5 gz_5
        exact ⟨bodyPost_ret (v := .agg #[.int .i64 m1, .int .i64 c1, .int .i64 g1, .int .i64 i1, .int .i64 l1, .int .i64 f1]) (results_arr Try.results9 A9 rfl (by kernel_rfl) (by kernel_rfl)) rfl ⟨by rw [HS.out], K9⟩⟩
      · by_cases h1 : m = 1
        · subst h1
          cases gap
          · obtain ⟨q, hq⟩ : ∃ q, q = coaS ⟨1, c, g, i, l, f⟩ ⟨false, gyro, slow, pair, lit, bad, pass, o⟩ := ⟨_, rfl⟩
            have hk := fun W => coa_any 1 c g i l f false gyro slow pair lit bad pass o W hg
            rw [← hq] at hk
            have HS : Hid (plV (nextS ⟨1, c, g, i, l, f⟩ ⟨false, gyro, slow, pair, lit, bad, pass, o⟩) = plV q) := by rw [hq]; exact congrArg plV ((if_neg ho).trans ((if_neg (show ¬ (1 : Int) = 3 by decide)).trans ((if_neg (show ¬ (1 : Int) = 0 by decide)).trans (if_pos rfl))))
            clear hq
            obtain ⟨m1, c1, g1, i1, l1, f1⟩ := q
            unfold plV at hk
            replace HS : Hid (plV (nextS ⟨1, c, g, i, l, f⟩ ⟨false, gyro, slow, pair, lit, bad, pass, o⟩) = .agg #[.int .i64 m1, .int .i64 c1, .int .i64 g1, .int .i64 i1, .int .i64 l1, .int .i64 f1]) := HS
            go_enter Try.func9, Try.ntmps9
            go_wp2_with fail
            refine (hk _).mono ?_
            rintro e w1 ⟨rfl, b1⟩
            have A0_1 : Arr w.heap.size [.int .i64 1, .int .i64 c, .int .i64 g, .int .i64 i, .int .i64 l, .int .i64 f] w1 := (((Arr_at _ w.heap.size [.int .i64 1, .int .i64 c, .int .i64 g, .int .i64 i, .int .i64 l, .int .i64 f] 23 (by simp)).alloc _).alloc _).below b1
            have A1_1 : Arr (w.heap.size + 1) [.bool false, .bool gyro, .bool slow, .bool pair, .bool lit, .bool bad, .bool pass, .int .i64 o] w1 := ((Arr_at _ (w.heap.size + 1) [.bool false, .bool gyro, .bool slow, .bool pair, .bool lit, .bool bad, .bool pass, .int .i64 o] 25 (by simp)).alloc _).below b1
            have A2_1 : Arr (w.heap.size + 1 + 1) [.int .i64 0, .int .i64 0, .int .i64 0, .int .i64 0, .int .i64 0, .int .i64 0] w1 := (Arr_at _ (w.heap.size + 1 + 1) [.int .i64 0, .int .i64 0, .int .i64 0, .int .i64 0, .int .i64 0, .int .i64 0] 23 (by simp)).below b1
            have K1 : Below w.heap.size w w1 := bel_then (bel_al (bel_al (bel_al (Below.refl w.heap.size w) _) _) _) b1
            clear b1
            have cp_0 : w1.cell? ⟨w.heap.size, 0, none⟩ = some (.int .i64 1) := A0_1.c 0 (of_decide_eq_true rfl)
            have gp_0 := A0_1.f 0 (of_decide_eq_true rfl)
            have cp_1 : w1.cell? ⟨w.heap.size, 1, none⟩ = some (.int .i64 c) := A0_1.c 1 (of_decide_eq_true rfl)
            have gp_1 := A0_1.f 1 (of_decide_eq_true rfl)
            have cp_2 : w1.cell? ⟨w.heap.size, 2, none⟩ = some (.int .i64 g) := A0_1.c 2 (of_decide_eq_true rfl)
            have gp_2 := A0_1.f 2 (of_decide_eq_true rfl)
            have cp_3 : w1.cell? ⟨w.heap.size, 3, none⟩ = some (.int .i64 i) := A0_1.c 3 (of_decide_eq_true rfl)
            have gp_3 := A0_1.f 3 (of_decide_eq_true rfl)
            have cp_4 : w1.cell? ⟨w.heap.size, 4, none⟩ = some (.int .i64 l) := A0_1.c 4 (of_decide_eq_true rfl)
            have gp_4 := A0_1.f 4 (of_decide_eq_true rfl)
            have cp_5 : w1.cell? ⟨w.heap.size, 5, none⟩ = some (.int .i64 f) := A0_1.c 5 (of_decide_eq_true rfl)
            have gp_5 := A0_1.f 5 (of_decide_eq_true rfl)
            have cs_0 : w1.cell? ⟨(w.heap.size + 1), 0, none⟩ = some (.bool false) := A1_1.c 0 (of_decide_eq_true rfl)
            have cs_1 : w1.cell? ⟨(w.heap.size + 1), 1, none⟩ = some (.bool gyro) := A1_1.c 1 (of_decide_eq_true rfl)
            have cs_2 : w1.cell? ⟨(w.heap.size + 1), 2, none⟩ = some (.bool slow) := A1_1.c 2 (of_decide_eq_true rfl)
            have cs_3 : w1.cell? ⟨(w.heap.size + 1), 3, none⟩ = some (.bool pair) := A1_1.c 3 (of_decide_eq_true rfl)
            have cs_4 : w1.cell? ⟨(w.heap.size + 1), 4, none⟩ = some (.bool lit) := A1_1.c 4 (of_decide_eq_true rfl)
            have cs_5 : w1.cell? ⟨(w.heap.size + 1), 5, none⟩ = some (.bool bad) := A1_1.c 5 (of_decide_eq_true rfl)
            have cs_6 : w1.cell? ⟨(w.heap.size + 1), 6, none⟩ = some (.bool pass) := A1_1.c 6 (of_decide_eq_true rfl)
            have cs_7 : w1.cell? ⟨(w.heap.size + 1), 7, none⟩ = some (.int .i64 o) := A1_1.c 7 (of_decide_eq_true rfl)
            have cz_0 : w1.cell? ⟨(w.heap.size + 1 + 1), 0, none⟩ = some (.int .i64 0) := A2_1.c 0 (of_decide_eq_true rfl)
            have gz_0 := A2_1.f 0 (of_decide_eq_true rfl)
            have cz_1 : w1.cell? ⟨(w.heap.size + 1 + 1), 1, none⟩ = some (.int .i64 0) := A2_1.c 1 (of_decide_eq_true rfl)
            have gz_1 := A2_1.f 1 (of_decide_eq_true rfl)
            have cz_2 : w1.cell? ⟨(w.heap.size + 1 + 1), 2, none⟩ = some (.int .i64 0) := A2_1.c 2 (of_decide_eq_true rfl)
            have gz_2 := A2_1.f 2 (of_decide_eq_true rfl)
            have cz_3 : w1.cell? ⟨(w.heap.size + 1 + 1), 3, none⟩ = some (.int .i64 0) := A2_1.c 3 (of_decide_eq_true rfl)
            have gz_3 := A2_1.f 3 (of_decide_eq_true rfl)
            have cz_4 : w1.cell? ⟨(w.heap.size + 1 + 1), 4, none⟩ = some (.int .i64 0) := A2_1.c 4 (of_decide_eq_true rfl)
            have gz_4 := A2_1.f 4 (of_decide_eq_true rfl)
            have cz_5 : w1.cell? ⟨(w.heap.size + 1 + 1), 5, none⟩ = some (.int .i64 0) := A2_1.c 5 (of_decide_eq_true rfl)
            have gz_5 := A2_1.f 5 (of_decide_eq_true rfl)
            have zz1 := A2_1.lies
            go_wp2_with (with_reducible refine post_stop ?_)
            have A9 := ((((((A2_1.put 0 (of_decide_eq_true rfl) (.int .i64 m1) [.int .i64 m1, .int .i64 0, .int .i64 0, .int .i64 0, .int .i64 0, .int .i64 0] rfl).put 1 (of_decide_eq_true rfl) (.int .i64 c1) [.int .i64 m1, .int .i64 c1, .int .i64 0, .int .i64 0, .int .i64 0, .int .i64 0] rfl).put 2 (of_decide_eq_true rfl) (.int .i64 g1) [.int .i64 m1, .int .i64 c1, .int .i64 g1, .int .i64 0, .int .i64 0, .int .i64 0] rfl).put 3 (of_decide_eq_true rfl) (.int .i64 i1) [.int .i64 m1, .int .i64 c1, .int .i64 g1, .int .i64 i1, .int .i64 0, .int .i64 0] rfl).put 4 (of_decide_eq_true rfl) (.int .i64 l1) [.int .i64 m1, .int .i64 c1, .int .i64 g1, .int .i64 i1, .int .i64 l1, .int .i64 0] rfl).put 5 (of_decide_eq_true rfl) (.int .i64 f1) [.int .i64 m1, .int .i64 c1, .int .i64 g1, .int .i64 i1, .int .i64 l1, .int .i64 f1] rfl)
            have K9 := (bel_new (bel_new (bel_new (bel_new (bel_new (bel_new K1 (w.heap.size + 1 + 1) 0 (by omega) (.int .i64 m1)) (w.heap.size + 1 + 1) 1 (by omega) (.int .i64 c1)) (w.heap.size + 1 + 1) 2 (by omega) (.int .i64 g1)) (w.heap.size + 1 + 1) 3 (by omega) (.int .i64 i1)) (w.heap.size + 1 + 1) 4 (by omega) (.int .i64 l1)) (w.heap.size + 1 + 1) 5 (by omega) (.int .i64 f1))
            clear cp_0 gp_0 cp_1 gp_1 cp_2 gp_2 cp_3 gp_3 cp_4 gp_4 cp_5 gp_5 cs_0 cs_1 cs_2 cs_3 cs_4 cs_5 cs_6 cs_7 cz_0 gz_0 cz_1 gz_1 cz_2 gz_2 cz_3 gz_3 cz_4 gz_4 cz_5 gz_5
            exact ⟨bodyPost_ret (v := .agg #[.int .i64 m1, .int .i64 c1, .int .i64 g1, .int .i64 i1, .int .i64 l1, .int .i64 f1]) (results_arr Try.results9 A9 rfl (by kernel_rfl) (by kernel_rfl)) rfl ⟨by rw [HS.out], K9⟩⟩
          · have HS : Hid (plV (nextS ⟨1, c, g, i, l, f⟩ ⟨true, gyro, slow, pair, lit, bad, pass, o⟩) = .agg #[.int .i64 1, .int .i64 0, .int .i64 0, .int .i64 0, .int .i64 0, .int .i64 (bits .or .i64 f 1)]) := by show plV _ = _; first | exact congrArg plV ((if_neg ho).trans ((if_neg (show ¬ (1 : Int) = 3 by decide)).trans ((if_neg (show ¬ (1 : Int) = 0 by decide)).trans (if_pos rfl)))) | rfl | exact congrArg plV (if_neg ho) | exact congrArg plV (if_neg t) | exact congrArg plV (if_neg u) | exact congrArg plV (if_pos u)
            go_enter Try.func9, Try.ntmps9
            go_wp2_with fail
            refine (fail_any 1 1 c g i l f _ ⟨by decide, by decide⟩ ⟨by decide, by decide⟩ (by decide)).mono ?_
            rintro e w1 ⟨rfl, b1⟩
            have A0_1 : Arr w.heap.size [.int .i64 1, .int .i64 c, .int .i64 g, .int .i64 i, .int .i64 l, .int .i64 f] w1 := (((Arr_at _ w.heap.size [.int .i64 1, .int .i64 c, .int .i64 g, .int .i64 i, .int .i64 l, .int .i64 f] 23 (by simp)).alloc _).alloc _).below b1
            have A1_1 : Arr (w.heap.size + 1) [.bool true, .bool gyro, .bool slow, .bool pair, .bool lit, .bool bad, .bool pass, .int .i64 o] w1 := ((Arr_at _ (w.heap.size + 1) [.bool true, .bool gyro, .bool slow, .bool pair, .bool lit, .bool bad, .bool pass, .int .i64 o] 25 (by simp)).alloc _).below b1
            have A2_1 : Arr (w.heap.size + 1 + 1) [.int .i64 0, .int .i64 0, .int .i64 0, .int .i64 0, .int .i64 0, .int .i64 0] w1 := (Arr_at _ (w.heap.size + 1 + 1) [.int .i64 0, .int .i64 0, .int .i64 0, .int .i64 0, .int .i64 0, .int .i64 0] 23 (by simp)).below b1
            have K1 : Below w.heap.size w w1 := bel_then (bel_al (bel_al (bel_al (Below.refl w.heap.size w) _) _) _) b1
            clear b1
            have cp_0 : w1.cell? ⟨w.heap.size, 0, none⟩ = some (.int .i64 1) := A0_1.c 0 (of_decide_eq_true rfl)
            have gp_0 := A0_1.f 0 (of_decide_eq_true rfl)
            have cp_1 : w1.cell? ⟨w.heap.size, 1, none⟩ = some (.int .i64 c) := A0_1.c 1 (of_decide_eq_true rfl)
            have gp_1 := A0_1.f 1 (of_decide_eq_true rfl)
            have cp_2 : w1.cell? ⟨w.heap.size, 2, none⟩ = some (.int .i64 g) := A0_1.c 2 (of_decide_eq_true rfl)
            have gp_2 := A0_1.f 2 (of_decide_eq_true rfl)
            have cp_3 : w1.cell? ⟨w.heap.size, 3, none⟩ = some (.int .i64 i) := A0_1.c 3 (of_decide_eq_true rfl)
            have gp_3 := A0_1.f 3 (of_decide_eq_true rfl)
            have cp_4 : w1.cell? ⟨w.heap.size, 4, none⟩ = some (.int .i64 l) := A0_1.c 4 (of_decide_eq_true rfl)
            have gp_4 := A0_1.f 4 (of_decide_eq_true rfl)
            have cp_5 : w1.cell? ⟨w.heap.size, 5, none⟩ = some (.int .i64 f) := A0_1.c 5 (of_decide_eq_true rfl)
            have gp_5 := A0_1.f 5 (of_decide_eq_true rfl)
            have cs_0 : w1.cell? ⟨(w.heap.size + 1), 0, none⟩ = some (.bool true) := A1_1.c 0 (of_decide_eq_true rfl)
            have cs_1 : w1.cell? ⟨(w.heap.size + 1), 1, none⟩ = some (.bool gyro) := A1_1.c 1 (of_decide_eq_true rfl)
            have cs_2 : w1.cell? ⟨(w.heap.size + 1), 2, none⟩ = some (.bool slow) := A1_1.c 2 (of_decide_eq_true rfl)
            have cs_3 : w1.cell? ⟨(w.heap.size + 1), 3, none⟩ = some (.bool pair) := A1_1.c 3 (of_decide_eq_true rfl)
            have cs_4 : w1.cell? ⟨(w.heap.size + 1), 4, none⟩ = some (.bool lit) := A1_1.c 4 (of_decide_eq_true rfl)
            have cs_5 : w1.cell? ⟨(w.heap.size + 1), 5, none⟩ = some (.bool bad) := A1_1.c 5 (of_decide_eq_true rfl)
            have cs_6 : w1.cell? ⟨(w.heap.size + 1), 6, none⟩ = some (.bool pass) := A1_1.c 6 (of_decide_eq_true rfl)
            have cs_7 : w1.cell? ⟨(w.heap.size + 1), 7, none⟩ = some (.int .i64 o) := A1_1.c 7 (of_decide_eq_true rfl)
            have cz_0 : w1.cell? ⟨(w.heap.size + 1 + 1), 0, none⟩ = some (.int .i64 0) := A2_1.c 0 (of_decide_eq_true rfl)
            have gz_0 := A2_1.f 0 (of_decide_eq_true rfl)
            have cz_1 : w1.cell? ⟨(w.heap.size + 1 + 1), 1, none⟩ = some (.int .i64 0) := A2_1.c 1 (of_decide_eq_true rfl)
            have gz_1 := A2_1.f 1 (of_decide_eq_true rfl)
            have cz_2 : w1.cell? ⟨(w.heap.size + 1 + 1), 2, none⟩ = some (.int .i64 0) := A2_1.c 2 (of_decide_eq_true rfl)
            have gz_2 := A2_1.f 2 (of_decide_eq_true rfl)
            have cz_3 : w1.cell? ⟨(w.heap.size + 1 + 1), 3, none⟩ = some (.int .i64 0) := A2_1.c 3 (of_decide_eq_true rfl)
            have gz_3 := A2_1.f 3 (of_decide_eq_true rfl)
            have cz_4 : w1.cell? ⟨(w.heap.size + 1 + 1), 4, none⟩ = some (.int .i64 0) := A2_1.c 4 (of_decide_eq_true rfl)
            have gz_4 := A2_1.f 4 (of_decide_eq_true rfl)
            have cz_5 : w1.cell? ⟨(w.heap.size + 1 + 1), 5, none⟩ = some (.int .i64 0) := A2_1.c 5 (of_decide_eq_true rfl)
            have gz_5 := A2_1.f 5 (of_decide_eq_true rfl)
            have zz1 := A2_1.lies
            go_wp2_with (with_reducible refine post_stop ?_)
            have A9 := ((((((A2_1.put 0 (of_decide_eq_true rfl) (.int .i64 1) [.int .i64 1, .int .i64 0, .int .i64 0, .int .i64 0, .int .i64 0, .int .i64 0] rfl).put 1 (of_decide_eq_true rfl) (.int .i64 0) [.int .i64 1, .int .i64 0, .int .i64 0, .int .i64 0, .int .i64 0, .int .i64 0] rfl).put 2 (of_decide_eq_true rfl) (.int .i64 0) [.int .i64 1, .int .i64 0, .int .i64 0, .int .i64 0, .int .i64 0, .int .i64 0] rfl).put 3 (of_decide_eq_true rfl) (.int .i64 0) [.int .i64 1, .int .i64 0, .int .i64 0, .int .i64 0, .int .i64 0, .int .i64 0] rfl).put 4 (of_decide_eq_true rfl) (.int .i64 0) [.int .i64 1, .int .i64 0, .int .i64 0, .int .i64 0, .int .i64 0, .int .i64 0] rfl).put 5 (of_decide_eq_true rfl) (.int .i64 (bits .or .i64 f 1)) [.int .i64 1, .int .i64 0, .int .i64 0, .int .i64 0, .int .i64 0, .int .i64 (bits .or .i64 f 1)] rfl)
            have K9 := (bel_new (bel_new (bel_new (bel_new (bel_new (bel_new K1 (w.heap.size + 1 + 1) 0 (by omega) (.int .i64 1)) (w.heap.size + 1 + 1) 1 (by omega) (.int .i64 0)) (w.heap.size + 1 + 1) 2 (by omega) (.int .i64 0)) (w.heap.size + 1 + 1) 3 (by omega) (.int .i64 0)) (w.heap.size + 1 + 1) 4 (by omega) (.int .i64 0)) (w.heap.size + 1 + 1) 5 (by omega) (.int .i64 (bits .or .i64 f 1)))
            clear cp_0 gp_0 cp_1 gp_1 cp_2 gp_2 cp_3 gp_3 cp_4 gp_4 cp_5 gp_5 cs_0 cs_1 cs_2 cs_3 cs_4 cs_5 cs_6 cs_7 cz_0 gz_0 cz_1 gz_1 cz_2 gz_2 cz_3 gz_3 cz_4 gz_4 cz_5 gz_5
            exact ⟨bodyPost_ret (v := .agg #[.int .i64 1, .int .i64 0, .int .i64 0, .int .i64 0, .int .i64 0, .int .i64 (bits .or .i64 f 1)]) (results_arr Try.results9 A9 rfl (by kernel_rfl) (by kernel_rfl)) rfl ⟨by rw [HS.out], K9⟩⟩
        · by_cases h2 : m = 2
          · subst h2
            cases gap
            · obtain ⟨q, hq⟩ : ∃ q, q = finS ⟨2, c, g, i, l, f⟩ ⟨false, gyro, slow, pair, lit, bad, pass, o⟩ := ⟨_, rfl⟩
              have hk := fun W => fin_any c g i l f false gyro slow pair lit bad pass o W hl hi
              rw [← hq] at hk
              have HS : Hid (plV (nextS ⟨2, c, g, i, l, f⟩ ⟨false, gyro, slow, pair, lit, bad, pass, o⟩) = plV q) := by rw [hq]; exact congrArg plV ((if_neg ho).trans ((if_neg (show ¬ (2 : Int) = 3 by decide)).trans ((if_neg (show ¬ (2 : Int) = 0 by decide)).trans ((if_neg (show ¬ (2 : Int) = 1 by decide)).trans (if_pos rfl)))))
              clear hq
              obtain ⟨m1, c1, g1, i1, l1, f1⟩ := q
              unfold plV at hk
              replace HS : Hid (plV (nextS ⟨2, c, g, i, l, f⟩ ⟨false, gyro, slow, pair, lit, bad, pass, o⟩) = .agg #[.int .i64 m1, .int .i64 c1, .int .i64 g1, .int .i64 i1, .int .i64 l1, .int .i64 f1]) := HS
              go_enter Try.func9, Try.ntmps9
              go_wp2_with fail
              refine (hk _).mono ?_
              rintro e w1 ⟨rfl, b1⟩
              have A0_1 : Arr w.heap.size [.int .i64 2, .int .i64 c, .int .i64 g, .int .i64 i, .int .i64 l, .int .i64 f] w1 := (((Arr_at _ w.heap.size [.int .i64 2, .int .i64 c, .int .i64 g, .int .i64 i, .int .i64 l, .int .i64 f] 23 (by simp)).alloc _).alloc _).below b1
              have A1_1 : Arr (w.heap.size + 1) [.bool false, .bool gyro, .bool slow, .bool pair, .bool lit, .bool bad, .bool pass, .int .i64 o] w1 := ((Arr_at _ (w.heap.size + 1) [.bool false, .bool gyro, .bool slow, .bool pair, .bool lit, .bool bad, .bool pass, .int .i64 o] 25 (by simp)).alloc _).below b1
              have A2_1 : Arr (w.heap.size + 1 + 1) [.int .i64 0, .int .i64 0, .int .i64 0, .int .i64 0, .int .i64 0, .int .i64 0] w1 := (Arr_at _ (w.heap.size + 1 + 1) [.int .i64 0, .int .i64 0, .int .i64 0, .int .i64 0, .int .i64 0, .int .i64 0] 23 (by simp)).below b1
              have K1 : Below w.heap.size w w1 := bel_then (bel_al (bel_al (bel_al (Below.refl w.heap.size w) _) _) _) b1
              clear b1
              have cp_0 : w1.cell? ⟨w.heap.size, 0, none⟩ = some (.int .i64 2) := A0_1.c 0 (of_decide_eq_true rfl)
              have gp_0 := A0_1.f 0 (of_decide_eq_true rfl)
              have cp_1 : w1.cell? ⟨w.heap.size, 1, none⟩ = some (.int .i64 c) := A0_1.c 1 (of_decide_eq_true rfl)
              have gp_1 := A0_1.f 1 (of_decide_eq_true rfl)
              have cp_2 : w1.cell? ⟨w.heap.size, 2, none⟩ = some (.int .i64 g) := A0_1.c 2 (of_decide_eq_true rfl)
              have gp_2 := A0_1.f 2 (of_decide_eq_true rfl)
              have cp_3 : w1.cell? ⟨w.heap.size, 3, none⟩ = some (.int .i64 i) := A0_1.c 3 (of_decide_eq_true rfl)
              have gp_3 := A0_1.f 3 (of_decide_eq_true rfl)
              have cp_4 : w1.cell? ⟨w.heap.size, 4, none⟩ = some (.int .i64 l) := A0_1.c 4 (of_decide_eq_true rfl)
              have gp_4 := A0_1.f 4 (of_decide_eq_true rfl)
              have cp_5 : w1.cell? ⟨w.heap.size, 5, none⟩ = some (.int .i64 f) := A0_1.c 5 (of_decide_eq_true rfl)
              have gp_5 := A0_1.f 5 (of_decide_eq_true rfl)
              have cs_0 : w1.cell? ⟨(w.heap.size + 1), 0, none⟩ = some (.bool false) := A1_1.c 0 (of_decide_eq_true rfl)
              have cs_1 : w1.cell? ⟨(w.heap.size + 1), 1, none⟩ = some (.bool gyro) := A1_1.c 1 (of_decide_eq_true rfl)
              have cs_2 : w1.cell? ⟨(w.heap.size + 1), 2, none⟩ = some (.bool slow) := A1_1.c 2 (of_decide_eq_true rfl)
              have cs_3 : w1.cell? ⟨(w.heap.size + 1), 3, none⟩ = some (.bool pair) := A1_1.c 3 (of_decide_eq_true rfl)
              have cs_4 : w1.cell? ⟨(w.heap.size + 1), 4, none⟩ = some (.bool lit) := A1_1.c 4 (of_decide_eq_true rfl)
              have cs_5 : w1.cell? ⟨(w.heap.size + 1), 5, none⟩ = some (.bool bad) := A1_1.c 5 (of_decide_eq_true rfl)
              have cs_6 : w1.cell? ⟨(w.heap.size + 1), 6, none⟩ = some (.bool pass) := A1_1.c 6 (of_decide_eq_true rfl)
              have cs_7 : w1.cell? ⟨(w.heap.size + 1), 7, none⟩ = some (.int .i64 o) := A1_1.c 7 (of_decide_eq_true rfl)
              have cz_0 : w1.cell? ⟨(w.heap.size + 1 + 1), 0, none⟩ = some (.int .i64 0) := A2_1.c 0 (of_decide_eq_true rfl)
              have gz_0 := A2_1.f 0 (of_decide_eq_true rfl)
              have cz_1 : w1.cell? ⟨(w.heap.size + 1 + 1), 1, none⟩ = some (.int .i64 0) := A2_1.c 1 (of_decide_eq_true rfl)
              have gz_1 := A2_1.f 1 (of_decide_eq_true rfl)
              have cz_2 : w1.cell? ⟨(w.heap.size + 1 + 1), 2, none⟩ = some (.int .i64 0) := A2_1.c 2 (of_decide_eq_true rfl)
              have gz_2 := A2_1.f 2 (of_decide_eq_true rfl)
              have cz_3 : w1.cell? ⟨(w.heap.size + 1 + 1), 3, none⟩ = some (.int .i64 0) := A2_1.c 3 (of_decide_eq_true rfl)
              have gz_3 := A2_1.f 3 (of_decide_eq_true rfl)
              have cz_4 : w1.cell? ⟨(w.heap.size + 1 + 1), 4, none⟩ = some (.int .i64 0) := A2_1.c 4 (of_decide_eq_true rfl)
              have gz_4 := A2_1.f 4 (of_decide_eq_true rfl)
              have cz_5 : w1.cell? ⟨(w.heap.size + 1 + 1), 5, none⟩ = some (.int .i64 0) := A2_1.c 5 (of_decide_eq_true rfl)
              have gz_5 := A2_1.f 5 (of_decide_eq_true rfl)
              have zz1 := A2_1.lies
              go_wp2_with (with_reducible refine post_stop ?_)
              have A9 := ((((((A2_1.put 0 (of_decide_eq_true rfl) (.int .i64 m1) [.int .i64 m1, .int .i64 0, .int .i64 0, .int .i64 0, .int .i64 0, .int .i64 0] rfl).put 1 (of_decide_eq_true rfl) (.int .i64 c1) [.int .i64 m1, .int .i64 c1, .int .i64 0, .int .i64 0, .int .i64 0, .int .i64 0] rfl).put 2 (of_decide_eq_true rfl) (.int .i64 g1) [.int .i64 m1, .int .i64 c1, .int .i64 g1, .int .i64 0, .int .i64 0, .int .i64 0] rfl).put 3 (of_decide_eq_true rfl) (.int .i64 i1) [.int .i64 m1, .int .i64 c1, .int .i64 g1, .int .i64 i1, .int .i64 0, .int .i64 0] rfl).put 4 (of_decide_eq_true rfl) (.int .i64 l1) [.int .i64 m1, .int .i64 c1, .int .i64 g1, .int .i64 i1, .int .i64 l1, .int .i64 0] rfl).put 5 (of_decide_eq_true rfl) (.int .i64 f1) [.int .i64 m1, .int .i64 c1, .int .i64 g1, .int .i64 i1, .int .i64 l1, .int .i64 f1] rfl)
              have K9 := (bel_new (bel_new (bel_new (bel_new (bel_new (bel_new K1 (w.heap.size + 1 + 1) 0 (by omega) (.int .i64 m1)) (w.heap.size + 1 + 1) 1 (by omega) (.int .i64 c1)) (w.heap.size + 1 + 1) 2 (by omega) (.int .i64 g1)) (w.heap.size + 1 + 1) 3 (by omega) (.int .i64 i1)) (w.heap.size + 1 + 1) 4 (by omega) (.int .i64 l1)) (w.heap.size + 1 + 1) 5 (by omega) (.int .i64 f1))
              clear cp_0 gp_0 cp_1 gp_1 cp_2 gp_2 cp_3 gp_3 cp_4 gp_4 cp_5 gp_5 cs_0 cs_1 cs_2 cs_3 cs_4 cs_5 cs_6 cs_7 cz_0 gz_0 cz_1 gz_1 cz_2 gz_2 cz_3 gz_3 cz_4 gz_4 cz_5 gz_5
              exact ⟨bodyPost_ret (v := .agg #[.int .i64 m1, .int .i64 c1, .int .i64 g1, .int .i64 i1, .int .i64 l1, .int .i64 f1]) (results_arr Try.results9 A9 rfl (by kernel_rfl) (by kernel_rfl)) rfl ⟨by rw [HS.out], K9⟩⟩
            · have HS : Hid (plV (nextS ⟨2, c, g, i, l, f⟩ ⟨true, gyro, slow, pair, lit, bad, pass, o⟩) = .agg #[.int .i64 1, .int .i64 0, .int .i64 0, .int .i64 0, .int .i64 0, .int .i64 (bits .or .i64 f 1)]) := by show plV _ = _; first | exact congrArg plV ((if_neg ho).trans ((if_neg (show ¬ (2 : Int) = 3 by decide)).trans ((if_neg (show ¬ (2 : Int) = 0 by decide)).trans ((if_neg (show ¬ (2 : Int) = 1 by decide)).trans (if_pos rfl))))) | rfl | exact congrArg plV (if_neg ho) | exact congrArg plV (if_neg t) | exact congrArg plV (if_neg u) | exact congrArg plV (if_pos u)
              go_enter Try.func9, Try.ntmps9
              go_wp2_with fail
              refine (fail_any 1 2 c g i l f _ ⟨by decide, by decide⟩ ⟨by decide, by decide⟩ (by decide)).mono ?_
              rintro e w1 ⟨rfl, b1⟩
              have A0_1 : Arr w.heap.size [.int .i64 2, .int .i64 c, .int .i64 g, .int .i64 i, .int .i64 l, .int .i64 f] w1 := (((Arr_at _ w.heap.size [.int .i64 2, .int .i64 c, .int .i64 g, .int .i64 i, .int .i64 l, .int .i64 f] 23 (by simp)).alloc _).alloc _).below b1
              have A1_1 : Arr (w.heap.size + 1) [.bool true, .bool gyro, .bool slow, .bool pair, .bool lit, .bool bad, .bool pass, .int .i64 o] w1 := ((Arr_at _ (w.heap.size + 1) [.bool true, .bool gyro, .bool slow, .bool pair, .bool lit, .bool bad, .bool pass, .int .i64 o] 25 (by simp)).alloc _).below b1
              have A2_1 : Arr (w.heap.size + 1 + 1) [.int .i64 0, .int .i64 0, .int .i64 0, .int .i64 0, .int .i64 0, .int .i64 0] w1 := (Arr_at _ (w.heap.size + 1 + 1) [.int .i64 0, .int .i64 0, .int .i64 0, .int .i64 0, .int .i64 0, .int .i64 0] 23 (by simp)).below b1
              have K1 : Below w.heap.size w w1 := bel_then (bel_al (bel_al (bel_al (Below.refl w.heap.size w) _) _) _) b1
              clear b1
              have cp_0 : w1.cell? ⟨w.heap.size, 0, none⟩ = some (.int .i64 2) := A0_1.c 0 (of_decide_eq_true rfl)
              have gp_0 := A0_1.f 0 (of_decide_eq_true rfl)
              have cp_1 : w1.cell? ⟨w.heap.size, 1, none⟩ = some (.int .i64 c) := A0_1.c 1 (of_decide_eq_true rfl)
              have gp_1 := A0_1.f 1 (of_decide_eq_true rfl)
              have cp_2 : w1.cell? ⟨w.heap.size, 2, none⟩ = some (.int .i64 g) := A0_1.c 2 (of_decide_eq_true rfl)
              have gp_2 := A0_1.f 2 (of_decide_eq_true rfl)
              have cp_3 : w1.cell? ⟨w.heap.size, 3, none⟩ = some (.int .i64 i) := A0_1.c 3 (of_decide_eq_true rfl)
              have gp_3 := A0_1.f 3 (of_decide_eq_true rfl)
              have cp_4 : w1.cell? ⟨w.heap.size, 4, none⟩ = some (.int .i64 l) := A0_1.c 4 (of_decide_eq_true rfl)
              have gp_4 := A0_1.f 4 (of_decide_eq_true rfl)
              have cp_5 : w1.cell? ⟨w.heap.size, 5, none⟩ = some (.int .i64 f) := A0_1.c 5 (of_decide_eq_true rfl)
              have gp_5 := A0_1.f 5 (of_decide_eq_true rfl)
              have cs_0 : w1.cell? ⟨(w.heap.size + 1), 0, none⟩ = some (.bool true) := A1_1.c 0 (of_decide_eq_true rfl)
              have cs_1 : w1.cell? ⟨(w.heap.size + 1), 1, none⟩ = some (.bool gyro) := A1_1.c 1 (of_decide_eq_true rfl)
              have cs_2 : w1.cell? ⟨(w.heap.size + 1), 2, none⟩ = some (.bool slow) := A1_1.c 2 (of_decide_eq_true rfl)
              have cs_3 : w1.cell? ⟨(w.heap.size + 1), 3, none⟩ = some (.bool pair) := A1_1.c 3 (of_decide_eq_true rfl)
              have cs_4 : w1.cell? ⟨(w.heap.size + 1), 4, none⟩ = some (.bool lit) := A1_1.c 4 (of_decide_eq_true rfl)
              have cs_5 : w1.cell? ⟨(w.heap.size + 1), 5, none⟩ = some (.bool bad) := A1_1.c 5 (of_decide_eq_true rfl)
              have cs_6 : w1.cell? ⟨(w.heap.size + 1), 6, none⟩ = some (.bool pass) := A1_1.c 6 (of_decide_eq_true rfl)
              have cs_7 : w1.cell? ⟨(w.heap.size + 1), 7, none⟩ = some (.int .i64 o) := A1_1.c 7 (of_decide_eq_true rfl)
              have cz_0 : w1.cell? ⟨(w.heap.size + 1 + 1), 0, none⟩ = some (.int .i64 0) := A2_1.c 0 (of_decide_eq_true rfl)
              have gz_0 := A2_1.f 0 (of_decide_eq_true rfl)
              have cz_1 : w1.cell? ⟨(w.heap.size + 1 + 1), 1, none⟩ = some (.int .i64 0) := A2_1.c 1 (of_decide_eq_true rfl)
              have gz_1 := A2_1.f 1 (of_decide_eq_true rfl)
              have cz_2 : w1.cell? ⟨(w.heap.size + 1 + 1), 2, none⟩ = some (.int .i64 0) := A2_1.c 2 (of_decide_eq_true rfl)
              have gz_2 := A2_1.f 2 (of_decide_eq_true rfl)
              have cz_3 : w1.cell? ⟨(w.heap.size + 1 + 1), 3, none⟩ = some (.int .i64 0) := A2_1.c 3 (of_decide_eq_true rfl)
              have gz_3 := A2_1.f 3 (of_decide_eq_true rfl)
              have cz_4 : w1.cell? ⟨(w.heap.size + 1 + 1), 4, none⟩ = some (.int .i64 0) := A2_1.c 4 (of_decide_eq_true rfl)
              have gz_4 := A2_1.f 4 (of_decide_eq_true rfl)
              have cz_5 : w1.cell? ⟨(w.heap.size + 1 + 1), 5, none⟩ = some (.int .i64 0) := A2_1.c 5 (of_decide_eq_true rfl)
              have gz_5 := A2_1.f 5 (of_decide_eq_true rfl)
              have zz1 := A2_1.lies
              go_wp2_with (with_reducible refine post_stop ?_)
              have A9 := ((((((A2_1.put 0 (of_decide_eq_true rfl) (.int .i64 1) [.int .i64 1, .int .i64 0, .int .i64 0, .int .i64 0, .int .i64 0, .int .i64 0] rfl).put 1 (of_decide_eq_true rfl) (.int .i64 0) [.int .i64 1, .int .i64 0, .int .i64 0, .int .i64 0, .int .i64 0, .int .i64 0] rfl).put 2 (of_decide_eq_true rfl) (.int .i64 0) [.int .i64 1, .int .i64 0, .int .i64 0, .int .i64 0, .int .i64 0, .int .i64 0] rfl).put 3 (of_decide_eq_true rfl) (.int .i64 0) [.int .i64 1, .int .i64 0, .int .i64 0, .int .i64 0, .int .i64 0, .int .i64 0] rfl).put 4 (of_decide_eq_true rfl) (.int .i64 0) [.int .i64 1, .int .i64 0, .int .i64 0, .int .i64 0, .int .i64 0, .int .i64 0] rfl).put 5 (of_decide_eq_true rfl) (.int .i64 (bits .or .i64 f 1)) [.int .i64 1, .int .i64 0, .int .i64 0, .int .i64 0, .int .i64 0, .int .i64 (bits .or .i64 f 1)] rfl)
              have K9 := (bel_new (bel_new (bel_new (bel_new (bel_new (bel_new K1 (w.heap.size + 1 + 1) 0 (by omega) (.int .i64 1)) (w.heap.size + 1 + 1) 1 (by omega) (.int .i64 0)) (w.heap.size + 1 + 1) 2 (by omega) (.int .i64 0)) (w.heap.size + 1 + 1) 3 (by omega) (.int .i64 0)) (w.heap.size + 1 + 1) 4 (by omega) (.int .i64 0)) (w.heap.size + 1 + 1) 5 (by omega) (.int .i64 (bits .or .i64 f 1)))
              clear cp_0 gp_0 cp_1 gp_1 cp_2 gp_2 cp_3 gp_3 cp_4 gp_4 cp_5 gp_5 cs_0 cs_1 cs_2 cs_3 cs_4 cs_5 cs_6 cs_7 cz_0 gz_0 cz_1 gz_1 cz_2 gz_2 cz_3 gz_3 cz_4 gz_4 cz_5 gz_5
              exact ⟨bodyPost_ret (v := .agg #[.int .i64 1, .int .i64 0, .int .i64 0, .int .i64 0, .int .i64 0, .int .i64 (bits .or .i64 f 1)]) (results_arr Try.results9 A9 rfl (by kernel_rfl) (by kernel_rfl)) rfl ⟨by rw [HS.out], K9⟩⟩
          · have HS : Hid (plV (nextS ⟨m, c, g, i, l, f⟩ ⟨gap, gyro, slow, pair, lit, bad, pass, o⟩) = .agg #[.int .i64 3, .int .i64 0, .int .i64 0, .int .i64 0, .int .i64 0, .int .i64 f]) := by show plV _ = _; first | exact congrArg plV ((if_neg ho).trans ((if_neg h3).trans ((if_neg h0).trans ((if_neg h1).trans (if_neg h2))))) | rfl | exact congrArg plV (if_neg ho) | exact congrArg plV (if_neg t) | exact congrArg plV (if_neg u) | exact congrArg plV (if_pos u)
            go_enter Try.func9, Try.ntmps9
            go_wp2_with fail
            refine (goTo_any 3 (m) (c) (g) (i) (l) (f) _).mono ?_
            rintro e w1 ⟨rfl, b1⟩
            have A0_1 : Arr w.heap.size [.int .i64 m, .int .i64 c, .int .i64 g, .int .i64 i, .int .i64 l, .int .i64 f] w1 := (((Arr_at _ w.heap.size [.int .i64 m, .int .i64 c, .int .i64 g, .int .i64 i, .int .i64 l, .int .i64 f] 23 (by simp)).alloc _).alloc _).below b1
            have A1_1 : Arr (w.heap.size + 1) [.bool gap, .bool gyro, .bool slow, .bool pair, .bool lit, .bool bad, .bool pass, .int .i64 o] w1 := ((Arr_at _ (w.heap.size + 1) [.bool gap, .bool gyro, .bool slow, .bool pair, .bool lit, .bool bad, .bool pass, .int .i64 o] 25 (by simp)).alloc _).below b1
            have A2_1 : Arr (w.heap.size + 1 + 1) [.int .i64 0, .int .i64 0, .int .i64 0, .int .i64 0, .int .i64 0, .int .i64 0] w1 := (Arr_at _ (w.heap.size + 1 + 1) [.int .i64 0, .int .i64 0, .int .i64 0, .int .i64 0, .int .i64 0, .int .i64 0] 23 (by simp)).below b1
            have K1 : Below w.heap.size w w1 := bel_then (bel_al (bel_al (bel_al (Below.refl w.heap.size w) _) _) _) b1
            clear b1
            have cp_0 : w1.cell? ⟨w.heap.size, 0, none⟩ = some (.int .i64 m) := A0_1.c 0 (of_decide_eq_true rfl)
            have gp_0 := A0_1.f 0 (of_decide_eq_true rfl)
            have cp_1 : w1.cell? ⟨w.heap.size, 1, none⟩ = some (.int .i64 c) := A0_1.c 1 (of_decide_eq_true rfl)
            have gp_1 := A0_1.f 1 (of_decide_eq_true rfl)
            have cp_2 : w1.cell? ⟨w.heap.size, 2, none⟩ = some (.int .i64 g) := A0_1.c 2 (of_decide_eq_true rfl)
            have gp_2 := A0_1.f 2 (of_decide_eq_true rfl)
            have cp_3 : w1.cell? ⟨w.heap.size, 3, none⟩ = some (.int .i64 i) := A0_1.c 3 (of_decide_eq_true rfl)
            have gp_3 := A0_1.f 3 (of_decide_eq_true rfl)
            have cp_4 : w1.cell? ⟨w.heap.size, 4, none⟩ = some (.int .i64 l) := A0_1.c 4 (of_decide_eq_true rfl)
            have gp_4 := A0_1.f 4 (of_decide_eq_true rfl)
            have cp_5 : w1.cell? ⟨w.heap.size, 5, none⟩ = some (.int .i64 f) := A0_1.c 5 (of_decide_eq_true rfl)
            have gp_5 := A0_1.f 5 (of_decide_eq_true rfl)
            have cs_0 : w1.cell? ⟨(w.heap.size + 1), 0, none⟩ = some (.bool gap) := A1_1.c 0 (of_decide_eq_true rfl)
            have cs_1 : w1.cell? ⟨(w.heap.size + 1), 1, none⟩ = some (.bool gyro) := A1_1.c 1 (of_decide_eq_true rfl)
            have cs_2 : w1.cell? ⟨(w.heap.size + 1), 2, none⟩ = some (.bool slow) := A1_1.c 2 (of_decide_eq_true rfl)
            have cs_3 : w1.cell? ⟨(w.heap.size + 1), 3, none⟩ = some (.bool pair) := A1_1.c 3 (of_decide_eq_true rfl)
            have cs_4 : w1.cell? ⟨(w.heap.size + 1), 4, none⟩ = some (.bool lit) := A1_1.c 4 (of_decide_eq_true rfl)
            have cs_5 : w1.cell? ⟨(w.heap.size + 1), 5, none⟩ = some (.bool bad) := A1_1.c 5 (of_decide_eq_true rfl)
            have cs_6 : w1.cell? ⟨(w.heap.size + 1), 6, none⟩ = some (.bool pass) := A1_1.c 6 (of_decide_eq_true rfl)
            have cs_7 : w1.cell? ⟨(w.heap.size + 1), 7, none⟩ = some (.int .i64 o) := A1_1.c 7 (of_decide_eq_true rfl)
            have cz_0 : w1.cell? ⟨(w.heap.size + 1 + 1), 0, none⟩ = some (.int .i64 0) := A2_1.c 0 (of_decide_eq_true rfl)
            have gz_0 := A2_1.f 0 (of_decide_eq_true rfl)
            have cz_1 : w1.cell? ⟨(w.heap.size + 1 + 1), 1, none⟩ = some (.int .i64 0) := A2_1.c 1 (of_decide_eq_true rfl)
            have gz_1 := A2_1.f 1 (of_decide_eq_true rfl)
            have cz_2 : w1.cell? ⟨(w.heap.size + 1 + 1), 2, none⟩ = some (.int .i64 0) := A2_1.c 2 (of_decide_eq_true rfl)
            have gz_2 := A2_1.f 2 (of_decide_eq_true rfl)
            have cz_3 : w1.cell? ⟨(w.heap.size + 1 + 1), 3, none⟩ = some (.int .i64 0) := A2_1.c 3 (of_decide_eq_true rfl)
            have gz_3 := A2_1.f 3 (of_decide_eq_true rfl)
            have cz_4 : w1.cell? ⟨(w.heap.size + 1 + 1), 4, none⟩ = some (.int .i64 0) := A2_1.c 4 (of_decide_eq_true rfl)
            have gz_4 := A2_1.f 4 (of_decide_eq_true rfl)
            have cz_5 : w1.cell? ⟨(w.heap.size + 1 + 1), 5, none⟩ = some (.int .i64 0) := A2_1.c 5 (of_decide_eq_true rfl)
            have gz_5 := A2_1.f 5 (of_decide_eq_true rfl)
            have zz1 := A2_1.lies
            go_wp2_with (with_reducible refine post_stop ?_)
            have A9 := ((((((A2_1.put 0 (of_decide_eq_true rfl) (.int .i64 3) [.int .i64 3, .int .i64 0, .int .i64 0, .int .i64 0, .int .i64 0, .int .i64 0] rfl).put 1 (of_decide_eq_true rfl) (.int .i64 0) [.int .i64 3, .int .i64 0, .int .i64 0, .int .i64 0, .int .i64 0, .int .i64 0] rfl).put 2 (of_decide_eq_true rfl) (.int .i64 0) [.int .i64 3, .int .i64 0, .int .i64 0, .int .i64 0, .int .i64 0, .int .i64 0] rfl).put 3 (of_decide_eq_true rfl) (.int .i64 0) [.int .i64 3, .int .i64 0, .int .i64 0, .int .i64 0, .int .i64 0, .int .i64 0] rfl).put 4 (of_decide_eq_true rfl) (.int .i64 0) [.int .i64 3, .int .i64 0, .int .i64 0, .int .i64 0, .int .i64 0, .int .i64 0] rfl).put 5 (of_decide_eq_true rfl) (.int .i64 f) [.int .i64 3, .int .i64 0, .int .i64 0, .int .i64 0, .int .i64 0, .int .i64 f] rfl)
            have K9 := (bel_new (bel_new (bel_new (bel_new (bel_new (bel_new K1 (w.heap.size + 1 + 1) 0 (by omega) (.int .i64 3)) (w.heap.size + 1 + 1) 1 (by omega) (.int .i64 0)) (w.heap.size + 1 + 1) 2 (by omega) (.int .i64 0)) (w.heap.size + 1 + 1) 3 (by omega) (.int .i64 0)) (w.heap.size + 1 + 1) 4 (by omega) (.int .i64 0)) (w.heap.size + 1 + 1) 5 (by omega) (.int .i64 f))
            clear cp_0 gp_0 cp_1 gp_1 cp_2 gp_2 cp_3 gp_3 cp_4 gp_4 cp_5 gp_5 cs_0 cs_1 cs_2 cs_3 cs_4 cs_5 cs_6 cs_7 cz_0 gz_0 cz_1 gz_1 cz_2 gz_2 cz_3 gz_3 cz_4 gz_4 cz_5 gz_5
            exact ⟨bodyPost_ret (v := .agg #[.int .i64 3, .int .i64 0, .int .i64 0, .int .i64 0, .int .i64 0, .int .i64 f]) (results_arr Try.results9 A9 rfl (by kernel_rfl) (by kernel_rfl)) rfl ⟨by rw [HS.out], K9⟩⟩
end Go.Proofs.Ytocnaflhedccpaa
