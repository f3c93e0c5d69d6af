/-
  TelemWrites, walked, for the seat Ytchkedlfackfgaa. (Made by mktl.py.)
-/
import Derived.Test.YtchkedlfackfgaaTlAwake
import Derived.Test.YtchkedlfackfgaaTlRW
import Derived.Test.YtchkedlfackfgaaTlRead
namespace Go.Proofs.Ytchkedlfackfgaa
open Go.RowKit

set_option maxHeartbeats 4000000 in
set_option maxRecDepth 100000 in
theorem twr_no (T : Tl) (w : World) (h : tlOk T = false) :
    Calls Try.prog 3 #[.agg #[.int .i64 T.t, .int .i64 T.m, .int .i64 T.fa, .int .i64 T.ak, .int .i64 T.er, .int .i64 T.rj, .int .i64 T.q0, .int .i64 T.q1, .int .i64 T.q2, .int .i64 T.q3, .int .i64 T.d0, .int .i64 T.d1, .int .i64 T.d2]] w fun e w' => e = .returned (.bool true) ∧ Below w.heap.size w w' := by
  have hw := twrite_any T
  have hv := rtwrite_any T
  have e : tlW T = (0, ⟨#[]⟩) := by unfold tlW; rw [h]; rfl
  have hr := tread_any 0 ⟨#[]⟩
  have e2 : tlR 0 ⟨#[]⟩ = (tl0, false) := by
    unfold tlR
    rw [if_neg (by simp)]
  rw [e2] at hr
  unfold tl0 at hr
  dsimp only at hr
  rw [e, h] at hw hv
  clear e e2 h
  go_enter Try.func3, Try.ntmps3
  go_wp2_with fail
  refine (awake_any _).mono ?_
  rintro e w1 ⟨rfl, b1⟩
  have L1 := bel_then (bel_al (Below.refl _ w) _) b1
  have B1 := (Arr_at w w.heap.size [.int .i64 T.t, .int .i64 T.m, .int .i64 T.fa, .int .i64 T.ak, .int .i64 T.er, .int .i64 T.rj, .int .i64 T.q0, .int .i64 T.q1, .int .i64 T.q2, .int .i64 T.q3, .int .i64 T.d0, .int .i64 T.d1, .int .i64 T.d2] 25 rfl).below b1
  have a0 : w1.cell? ⟨w.heap.size, 0, none⟩ = some (.int .i64 T.t) := B1.c 0 (of_decide_eq_true rfl)
  have a1 : w1.cell? ⟨w.heap.size, 1, none⟩ = some (.int .i64 T.m) := B1.c 1 (of_decide_eq_true rfl)
  have a2 : w1.cell? ⟨w.heap.size, 2, none⟩ = some (.int .i64 T.fa) := B1.c 2 (of_decide_eq_true rfl)
  have a3 : w1.cell? ⟨w.heap.size, 3, none⟩ = some (.int .i64 T.ak) := B1.c 3 (of_decide_eq_true rfl)
  have a4 : w1.cell? ⟨w.heap.size, 4, none⟩ = some (.int .i64 T.er) := B1.c 4 (of_decide_eq_true rfl)
  have a5 : w1.cell? ⟨w.heap.size, 5, none⟩ = some (.int .i64 T.rj) := B1.c 5 (of_decide_eq_true rfl)
  have a6 : w1.cell? ⟨w.heap.size, 6, none⟩ = some (.int .i64 T.q0) := B1.c 6 (of_decide_eq_true rfl)
  have a7 : w1.cell? ⟨w.heap.size, 7, none⟩ = some (.int .i64 T.q1) := B1.c 7 (of_decide_eq_true rfl)
  have a8 : w1.cell? ⟨w.heap.size, 8, none⟩ = some (.int .i64 T.q2) := B1.c 8 (of_decide_eq_true rfl)
  have a9 : w1.cell? ⟨w.heap.size, 9, none⟩ = some (.int .i64 T.q3) := B1.c 9 (of_decide_eq_true rfl)
  have a10 : w1.cell? ⟨w.heap.size, 10, none⟩ = some (.int .i64 T.d0) := B1.c 10 (of_decide_eq_true rfl)
  have a11 : w1.cell? ⟨w.heap.size, 11, none⟩ = some (.int .i64 T.d1) := B1.c 11 (of_decide_eq_true rfl)
  have a12 : w1.cell? ⟨w.heap.size, 12, none⟩ = some (.int .i64 T.d2) := B1.c 12 (of_decide_eq_true rfl)
  have y1 := B1.lies
  clear b1
  go_wp2_with fail
  refine (hw _).mono ?_
  rintro e w2 ⟨rfl, b2⟩
  have L2 := bel_then L1 b2
  have B2 := B1.below b2
  have y2 := B2.lies
  clear b2 L1 B1 y1
  clear a0 a1 a2 a3 a4 a5 a6 a7 a8 a9 a10 a11 a12
  have a0 : w2.cell? ⟨w.heap.size, 0, none⟩ = some (.int .i64 T.t) := B2.c 0 (of_decide_eq_true rfl)
  have a1 : w2.cell? ⟨w.heap.size, 1, none⟩ = some (.int .i64 T.m) := B2.c 1 (of_decide_eq_true rfl)
  have a2 : w2.cell? ⟨w.heap.size, 2, none⟩ = some (.int .i64 T.fa) := B2.c 2 (of_decide_eq_true rfl)
  have a3 : w2.cell? ⟨w.heap.size, 3, none⟩ = some (.int .i64 T.ak) := B2.c 3 (of_decide_eq_true rfl)
  have a4 : w2.cell? ⟨w.heap.size, 4, none⟩ = some (.int .i64 T.er) := B2.c 4 (of_decide_eq_true rfl)
  have a5 : w2.cell? ⟨w.heap.size, 5, none⟩ = some (.int .i64 T.rj) := B2.c 5 (of_decide_eq_true rfl)
  have a6 : w2.cell? ⟨w.heap.size, 6, none⟩ = some (.int .i64 T.q0) := B2.c 6 (of_decide_eq_true rfl)
  have a7 : w2.cell? ⟨w.heap.size, 7, none⟩ = some (.int .i64 T.q1) := B2.c 7 (of_decide_eq_true rfl)
  have a8 : w2.cell? ⟨w.heap.size, 8, none⟩ = some (.int .i64 T.q2) := B2.c 8 (of_decide_eq_true rfl)
  have a9 : w2.cell? ⟨w.heap.size, 9, none⟩ = some (.int .i64 T.q3) := B2.c 9 (of_decide_eq_true rfl)
  have a10 : w2.cell? ⟨w.heap.size, 10, none⟩ = some (.int .i64 T.d0) := B2.c 10 (of_decide_eq_true rfl)
  have a11 : w2.cell? ⟨w.heap.size, 11, none⟩ = some (.int .i64 T.d1) := B2.c 11 (of_decide_eq_true rfl)
  have a12 : w2.cell? ⟨w.heap.size, 12, none⟩ = some (.int .i64 T.d2) := B2.c 12 (of_decide_eq_true rfl)
  go_wp2_with fail
  refine (hv _).mono ?_
  rintro e w3 ⟨rfl, b3⟩
  have X3 := (Arr_at w2 w2.heap.size [.int .i64 0, .string ⟨#[]⟩] 28 rfl).below b3
  have L3 := bel_then (bel_al L2 _) b3
  have B3 := (B2.alloc (.cells #[.int .i64 0, .string ⟨#[]⟩] 28)).below b3
  have y3 := B3.lies
  have x3 := X3.lies
  clear b3 L2 B2
  clear a0 a1 a2 a3 a4 a5 a6 a7 a8 a9 a10 a11 a12
  have c0 : w3.cell? ⟨w2.heap.size, 0, none⟩ = some (.int .i64 0) := X3.c 0 (of_decide_eq_true rfl)
  have c1 : w3.cell? ⟨w2.heap.size, 1, none⟩ = some (.string ⟨#[]⟩) := X3.c 1 (of_decide_eq_true rfl)
  go_wp2_with fail
  refine (hr _).mono ?_
  rintro e w4 ⟨rfl, b4⟩
  have L4 := bel_then (bel_al L3 _) b4
  have B4 := (B3.alloc (.cells #[.int .i64 0, .string ⟨#[]⟩] 28)).below b4
  have y4 := B4.lies
  clear b4 L3 B3 X3 c0 c1
  have a0 : w4.cell? ⟨w.heap.size, 0, none⟩ = some (.int .i64 T.t) := B4.c 0 (of_decide_eq_true rfl)
  have a1 : w4.cell? ⟨w.heap.size, 1, none⟩ = some (.int .i64 T.m) := B4.c 1 (of_decide_eq_true rfl)
  have a2 : w4.cell? ⟨w.heap.size, 2, none⟩ = some (.int .i64 T.fa) := B4.c 2 (of_decide_eq_true rfl)
  have a3 : w4.cell? ⟨w.heap.size, 3, none⟩ = some (.int .i64 T.ak) := B4.c 3 (of_decide_eq_true rfl)
  have a4 : w4.cell? ⟨w.heap.size, 4, none⟩ = some (.int .i64 T.er) := B4.c 4 (of_decide_eq_true rfl)
  have a5 : w4.cell? ⟨w.heap.size, 5, none⟩ = some (.int .i64 T.rj) := B4.c 5 (of_decide_eq_true rfl)
  have a6 : w4.cell? ⟨w.heap.size, 6, none⟩ = some (.int .i64 T.q0) := B4.c 6 (of_decide_eq_true rfl)
  have a7 : w4.cell? ⟨w.heap.size, 7, none⟩ = some (.int .i64 T.q1) := B4.c 7 (of_decide_eq_true rfl)
  have a8 : w4.cell? ⟨w.heap.size, 8, none⟩ = some (.int .i64 T.q2) := B4.c 8 (of_decide_eq_true rfl)
  have a9 : w4.cell? ⟨w.heap.size, 9, none⟩ = some (.int .i64 T.q3) := B4.c 9 (of_decide_eq_true rfl)
  have a10 : w4.cell? ⟨w.heap.size, 10, none⟩ = some (.int .i64 T.d0) := B4.c 10 (of_decide_eq_true rfl)
  have a11 : w4.cell? ⟨w.heap.size, 11, none⟩ = some (.int .i64 T.d1) := B4.c 11 (of_decide_eq_true rfl)
  have a12 : w4.cell? ⟨w.heap.size, 12, none⟩ = some (.int .i64 T.d2) := B4.c 12 (of_decide_eq_true rfl)
  go_wp2_with (with_reducible refine post_stop ?_)
  exact ⟨bodyPost_ret (v := .bool true) (by simp [results, Try.results3, go_sem]) rfl ⟨rfl, bel_al L4 _⟩⟩
set_option maxHeartbeats 4000000 in
set_option maxRecDepth 100000 in
theorem twr_yes (T : Tl) (w : World) (h : tlOk T = true) :
    Calls Try.prog 3 #[.agg #[.int .i64 T.t, .int .i64 T.m, .int .i64 T.fa, .int .i64 T.ak, .int .i64 T.er, .int .i64 T.rj, .int .i64 T.q0, .int .i64 T.q1, .int .i64 T.q2, .int .i64 T.q3, .int .i64 T.d0, .int .i64 T.d1, .int .i64 T.d2]] w fun e w' => e = .returned (.bool true) ∧ Below w.heap.size w w' := by
  have hw := twrite_any T
  have hv := rtwrite_any T
  have e : tlW T = (32, strOf (tlL T)) := by unfold tlW; rw [h, if_pos rfl]
  have hr := tread_any 32 (strOf (tlL T))
  have e2 : tlR 32 (strOf (tlL T)) = (T, true) := by
    unfold tlR
    rw [tl_back h, if_pos ⟨rfl, by rw [size_strOf]; rfl, h⟩]
  rw [e2] at hr
  rw [e, h] at hw hv
  clear e e2 h
  generalize strOf (tlL T) = S at *
  go_enter Try.func3, Try.ntmps3
  go_wp2_with fail
  refine (awake_any _).mono ?_
  rintro e w1 ⟨rfl, b1⟩
  have L1 := bel_then (bel_al (Below.refl _ w) _) b1
  have B1 := (Arr_at w w.heap.size [.int .i64 T.t, .int .i64 T.m, .int .i64 T.fa, .int .i64 T.ak, .int .i64 T.er, .int .i64 T.rj, .int .i64 T.q0, .int .i64 T.q1, .int .i64 T.q2, .int .i64 T.q3, .int .i64 T.d0, .int .i64 T.d1, .int .i64 T.d2] 25 rfl).below b1
  have a0 : w1.cell? ⟨w.heap.size, 0, none⟩ = some (.int .i64 T.t) := B1.c 0 (of_decide_eq_true rfl)
  have a1 : w1.cell? ⟨w.heap.size, 1, none⟩ = some (.int .i64 T.m) := B1.c 1 (of_decide_eq_true rfl)
  have a2 : w1.cell? ⟨w.heap.size, 2, none⟩ = some (.int .i64 T.fa) := B1.c 2 (of_decide_eq_true rfl)
  have a3 : w1.cell? ⟨w.heap.size, 3, none⟩ = some (.int .i64 T.ak) := B1.c 3 (of_decide_eq_true rfl)
  have a4 : w1.cell? ⟨w.heap.size, 4, none⟩ = some (.int .i64 T.er) := B1.c 4 (of_decide_eq_true rfl)
  have a5 : w1.cell? ⟨w.heap.size, 5, none⟩ = some (.int .i64 T.rj) := B1.c 5 (of_decide_eq_true rfl)
  have a6 : w1.cell? ⟨w.heap.size, 6, none⟩ = some (.int .i64 T.q0) := B1.c 6 (of_decide_eq_true rfl)
  have a7 : w1.cell? ⟨w.heap.size, 7, none⟩ = some (.int .i64 T.q1) := B1.c 7 (of_decide_eq_true rfl)
  have a8 : w1.cell? ⟨w.heap.size, 8, none⟩ = some (.int .i64 T.q2) := B1.c 8 (of_decide_eq_true rfl)
  have a9 : w1.cell? ⟨w.heap.size, 9, none⟩ = some (.int .i64 T.q3) := B1.c 9 (of_decide_eq_true rfl)
  have a10 : w1.cell? ⟨w.heap.size, 10, none⟩ = some (.int .i64 T.d0) := B1.c 10 (of_decide_eq_true rfl)
  have a11 : w1.cell? ⟨w.heap.size, 11, none⟩ = some (.int .i64 T.d1) := B1.c 11 (of_decide_eq_true rfl)
  have a12 : w1.cell? ⟨w.heap.size, 12, none⟩ = some (.int .i64 T.d2) := B1.c 12 (of_decide_eq_true rfl)
  have y1 := B1.lies
  clear b1
  go_wp2_with fail
  refine (hw _).mono ?_
  rintro e w2 ⟨rfl, b2⟩
  have L2 := bel_then L1 b2
  have B2 := B1.below b2
  have y2 := B2.lies
  clear b2 L1 B1 y1
  clear a0 a1 a2 a3 a4 a5 a6 a7 a8 a9 a10 a11 a12
  have a0 : w2.cell? ⟨w.heap.size, 0, none⟩ = some (.int .i64 T.t) := B2.c 0 (of_decide_eq_true rfl)
  have a1 : w2.cell? ⟨w.heap.size, 1, none⟩ = some (.int .i64 T.m) := B2.c 1 (of_decide_eq_true rfl)
  have a2 : w2.cell? ⟨w.heap.size, 2, none⟩ = some (.int .i64 T.fa) := B2.c 2 (of_decide_eq_true rfl)
  have a3 : w2.cell? ⟨w.heap.size, 3, none⟩ = some (.int .i64 T.ak) := B2.c 3 (of_decide_eq_true rfl)
  have a4 : w2.cell? ⟨w.heap.size, 4, none⟩ = some (.int .i64 T.er) := B2.c 4 (of_decide_eq_true rfl)
  have a5 : w2.cell? ⟨w.heap.size, 5, none⟩ = some (.int .i64 T.rj) := B2.c 5 (of_decide_eq_true rfl)
  have a6 : w2.cell? ⟨w.heap.size, 6, none⟩ = some (.int .i64 T.q0) := B2.c 6 (of_decide_eq_true rfl)
  have a7 : w2.cell? ⟨w.heap.size, 7, none⟩ = some (.int .i64 T.q1) := B2.c 7 (of_decide_eq_true rfl)
  have a8 : w2.cell? ⟨w.heap.size, 8, none⟩ = some (.int .i64 T.q2) := B2.c 8 (of_decide_eq_true rfl)
  have a9 : w2.cell? ⟨w.heap.size, 9, none⟩ = some (.int .i64 T.q3) := B2.c 9 (of_decide_eq_true rfl)
  have a10 : w2.cell? ⟨w.heap.size, 10, none⟩ = some (.int .i64 T.d0) := B2.c 10 (of_decide_eq_true rfl)
  have a11 : w2.cell? ⟨w.heap.size, 11, none⟩ = some (.int .i64 T.d1) := B2.c 11 (of_decide_eq_true rfl)
  have a12 : w2.cell? ⟨w.heap.size, 12, none⟩ = some (.int .i64 T.d2) := B2.c 12 (of_decide_eq_true rfl)
  go_wp2_with fail
  refine (hv _).mono ?_
  rintro e w3 ⟨rfl, b3⟩
  have X3 := (Arr_at w2 w2.heap.size [.int .i64 32, .string S] 28 rfl).below b3
  have L3 := bel_then (bel_al L2 _) b3
  have B3 := (B2.alloc (.cells #[.int .i64 32, .string S] 28)).below b3
  have y3 := B3.lies
  have x3 := X3.lies
  clear b3 L2 B2
  clear a0 a1 a2 a3 a4 a5 a6 a7 a8 a9 a10 a11 a12
  have c0 : w3.cell? ⟨w2.heap.size, 0, none⟩ = some (.int .i64 32) := X3.c 0 (of_decide_eq_true rfl)
  have c1 : w3.cell? ⟨w2.heap.size, 1, none⟩ = some (.string S) := X3.c 1 (of_decide_eq_true rfl)
  go_wp2_with fail
  refine (hr _).mono ?_
  rintro e w4 ⟨rfl, b4⟩
  have L4 := bel_then (bel_al L3 _) b4
  have B4 := (B3.alloc (.cells #[.int .i64 32, .string S] 28)).below b4
  have y4 := B4.lies
  clear b4 L3 B3 X3 c0 c1
  have a0 : w4.cell? ⟨w.heap.size, 0, none⟩ = some (.int .i64 T.t) := B4.c 0 (of_decide_eq_true rfl)
  have a1 : w4.cell? ⟨w.heap.size, 1, none⟩ = some (.int .i64 T.m) := B4.c 1 (of_decide_eq_true rfl)
  have a2 : w4.cell? ⟨w.heap.size, 2, none⟩ = some (.int .i64 T.fa) := B4.c 2 (of_decide_eq_true rfl)
  have a3 : w4.cell? ⟨w.heap.size, 3, none⟩ = some (.int .i64 T.ak) := B4.c 3 (of_decide_eq_true rfl)
  have a4 : w4.cell? ⟨w.heap.size, 4, none⟩ = some (.int .i64 T.er) := B4.c 4 (of_decide_eq_true rfl)
  have a5 : w4.cell? ⟨w.heap.size, 5, none⟩ = some (.int .i64 T.rj) := B4.c 5 (of_decide_eq_true rfl)
  have a6 : w4.cell? ⟨w.heap.size, 6, none⟩ = some (.int .i64 T.q0) := B4.c 6 (of_decide_eq_true rfl)
  have a7 : w4.cell? ⟨w.heap.size, 7, none⟩ = some (.int .i64 T.q1) := B4.c 7 (of_decide_eq_true rfl)
  have a8 : w4.cell? ⟨w.heap.size, 8, none⟩ = some (.int .i64 T.q2) := B4.c 8 (of_decide_eq_true rfl)
  have a9 : w4.cell? ⟨w.heap.size, 9, none⟩ = some (.int .i64 T.q3) := B4.c 9 (of_decide_eq_true rfl)
  have a10 : w4.cell? ⟨w.heap.size, 10, none⟩ = some (.int .i64 T.d0) := B4.c 10 (of_decide_eq_true rfl)
  have a11 : w4.cell? ⟨w.heap.size, 11, none⟩ = some (.int .i64 T.d1) := B4.c 11 (of_decide_eq_true rfl)
  have a12 : w4.cell? ⟨w.heap.size, 12, none⟩ = some (.int .i64 T.d2) := B4.c 12 (of_decide_eq_true rfl)
  go_wp2_with (with_reducible refine post_stop ?_)
  exact ⟨bodyPost_ret (v := .bool true) (by simp [results, Try.results3, go_sem]) rfl ⟨rfl, bel_al L4 _⟩⟩
set_option maxHeartbeats 4000000 in
set_option maxRecDepth 100000 in
theorem TelemWrites_any (T : Tl) (w : World) :
    Calls Try.prog 3 #[.agg #[.int .i64 T.t, .int .i64 T.m, .int .i64 T.fa, .int .i64 T.ak, .int .i64 T.er, .int .i64 T.rj, .int .i64 T.q0, .int .i64 T.q1, .int .i64 T.q2, .int .i64 T.q3, .int .i64 T.d0, .int .i64 T.d1, .int .i64 T.d2]] w fun e w' => e = .returned (.bool true) ∧ Below w.heap.size w w' := by
  cases h : tlOk T
  · exact twr_no T w h
  · exact twr_yes T w h
end Go.Proofs.Ytchkedlfackfgaa
