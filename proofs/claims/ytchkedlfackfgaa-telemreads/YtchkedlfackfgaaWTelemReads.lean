/-
  TelemReads, walked, for the seat Ytchkedlfackfgaa. (Made by mktl.py.)
-/
import Derived.Test.YtchkedlfackfgaaTlAwake
import Derived.Test.YtchkedlfackfgaaTlRead
import Derived.Test.YtchkedlfackfgaaTlRR
namespace Go.Proofs.Ytchkedlfackfgaa
open Go.RowKit

set_option maxHeartbeats 4000000 in
set_option maxRecDepth 100000 in
theorem trd_no (k : Int) (s : ByteArray) (w : World) (h : ¬ (k = 32 ∧ s.size = 26 ∧ tlOk (tlE s) = true)) :
    Calls Try.prog 4 #[.agg #[.int .i64 k, .string s]] w fun e w' => e = .returned (.bool true) ∧ Below w.heap.size w w' := by
  have hr := tread_any k s
  have hv := rtread_any k s
  have e : tlR k s = (tl0, false) := by unfold tlR; rw [if_neg h]
  rw [e] at hr hv
  unfold tl0 at hr hv
  dsimp only at hr hv
  clear e h
  go_enter Try.func4, Try.ntmps4
  go_wp2_with fail
  refine (awake_any _).mono ?_
  rintro e w1 ⟨rfl, b1⟩
  have L1 := bel_then (bel_al (Below.refl _ w) _) b1
  have B1 := (Arr_at w w.heap.size [.int .i64 k, .string s] 28 rfl).below b1
  have a0 : w1.cell? ⟨w.heap.size, 0, none⟩ = some (.int .i64 k) := B1.c 0 (of_decide_eq_true rfl)
  have a1 : w1.cell? ⟨w.heap.size, 1, none⟩ = some (.string s) := B1.c 1 (of_decide_eq_true rfl)
  have y1 := B1.lies
  clear b1
  go_wp2_with fail
  refine (hr _).mono ?_
  rintro e w2 ⟨rfl, b2⟩
  have L2 := bel_then L1 b2
  have B2 := B1.below b2
  have y2 := B2.lies
  clear b2 L1 B1 y1 a0 a1
  have a0 : w2.cell? ⟨w.heap.size, 0, none⟩ = some (.int .i64 k) := B2.c 0 (of_decide_eq_true rfl)
  have a1 : w2.cell? ⟨w.heap.size, 1, none⟩ = some (.string s) := B2.c 1 (of_decide_eq_true rfl)
  go_wp2_with fail
  refine (hv _).mono ?_
  rintro e w3 ⟨rfl, b3⟩
  have X3 := (Arr_at w2 w2.heap.size [.int .i64 0, .int .i64 0, .int .i64 0, .int .i64 0, .int .i64 0, .int .i64 0, .int .i64 0, .int .i64 0, .int .i64 0, .int .i64 0, .int .i64 0, .int .i64 0, .int .i64 0] 25 rfl).below b3
  have L3 := bel_then (bel_al L2 _) b3
  have B3 := (B2.alloc (.cells #[.int .i64 0, .int .i64 0, .int .i64 0, .int .i64 0, .int .i64 0, .int .i64 0, .int .i64 0, .int .i64 0, .int .i64 0, .int .i64 0, .int .i64 0, .int .i64 0, .int .i64 0] 25)).below b3
  have y3 := B3.lies
  have x3 := X3.lies
  clear b3 L2 B2 a0 a1
  have c0 : w3.cell? ⟨w2.heap.size, 0, none⟩ = some (.int .i64 0) := X3.c 0 (of_decide_eq_true rfl)
  have c1 : w3.cell? ⟨w2.heap.size, 1, none⟩ = some (.int .i64 0) := X3.c 1 (of_decide_eq_true rfl)
  have c2 : w3.cell? ⟨w2.heap.size, 2, none⟩ = some (.int .i64 0) := X3.c 2 (of_decide_eq_true rfl)
  have c3 : w3.cell? ⟨w2.heap.size, 3, none⟩ = some (.int .i64 0) := X3.c 3 (of_decide_eq_true rfl)
  have c4 : w3.cell? ⟨w2.heap.size, 4, none⟩ = some (.int .i64 0) := X3.c 4 (of_decide_eq_true rfl)
  have c5 : w3.cell? ⟨w2.heap.size, 5, none⟩ = some (.int .i64 0) := X3.c 5 (of_decide_eq_true rfl)
  have c6 : w3.cell? ⟨w2.heap.size, 6, none⟩ = some (.int .i64 0) := X3.c 6 (of_decide_eq_true rfl)
  have c7 : w3.cell? ⟨w2.heap.size, 7, none⟩ = some (.int .i64 0) := X3.c 7 (of_decide_eq_true rfl)
  have c8 : w3.cell? ⟨w2.heap.size, 8, none⟩ = some (.int .i64 0) := X3.c 8 (of_decide_eq_true rfl)
  have c9 : w3.cell? ⟨w2.heap.size, 9, none⟩ = some (.int .i64 0) := X3.c 9 (of_decide_eq_true rfl)
  have c10 : w3.cell? ⟨w2.heap.size, 10, none⟩ = some (.int .i64 0) := X3.c 10 (of_decide_eq_true rfl)
  have c11 : w3.cell? ⟨w2.heap.size, 11, none⟩ = some (.int .i64 0) := X3.c 11 (of_decide_eq_true rfl)
  have c12 : w3.cell? ⟨w2.heap.size, 12, none⟩ = some (.int .i64 0) := X3.c 12 (of_decide_eq_true rfl)
  go_wp2_with (with_reducible refine post_stop ?_)
  exact ⟨bodyPost_ret (v := .bool true) (by simp [results, Try.results4, go_sem]) rfl ⟨rfl, bel_al L3 _⟩⟩
set_option maxHeartbeats 4000000 in
set_option maxRecDepth 100000 in
theorem trd_yes (s : ByteArray) (w : World) (hs : s.size = 26) (h : tlOk (tlE s) = true) :
    Calls Try.prog 4 #[.agg #[.int .i64 32, .string s]] w fun e w' => e = .returned (.bool true) ∧ Below w.heap.size w w' := by
  have e : tlR 32 s = (tlE s, true) := by unfold tlR; rw [if_pos ⟨rfl, hs, h⟩]
  have hr := tread_any 32 s
  have hv := rtread_any 32 s
  have hw := twrite_any (tlE s)
  rw [e] at hr hv
  unfold tlW at hw
  rw [h, if_pos rfl, tl_there s hs] at hw
  clear e h hs
  generalize tlE s = T at *
  go_enter Try.func4, Try.ntmps4
  go_wp2_with fail
  refine (awake_any _).mono ?_
  rintro e w1 ⟨rfl, b1⟩
  have L1 := bel_then (bel_al (Below.refl _ w) _) b1
  have B1 := (Arr_at w w.heap.size [.int .i64 32, .string s] 28 rfl).below b1
  have a0 : w1.cell? ⟨w.heap.size, 0, none⟩ = some (.int .i64 32) := B1.c 0 (of_decide_eq_true rfl)
  have a1 : w1.cell? ⟨w.heap.size, 1, none⟩ = some (.string s) := B1.c 1 (of_decide_eq_true rfl)
  have y1 := B1.lies
  clear b1
  go_wp2_with fail
  refine (hr _).mono ?_
  rintro e w2 ⟨rfl, b2⟩
  have L2 := bel_then L1 b2
  have B2 := B1.below b2
  have y2 := B2.lies
  clear b2 L1 B1 y1 a0 a1
  have a0 : w2.cell? ⟨w.heap.size, 0, none⟩ = some (.int .i64 32) := B2.c 0 (of_decide_eq_true rfl)
  have a1 : w2.cell? ⟨w.heap.size, 1, none⟩ = some (.string s) := B2.c 1 (of_decide_eq_true rfl)
  go_wp2_with fail
  refine (hv _).mono ?_
  rintro e w3 ⟨rfl, b3⟩
  have X3 := (Arr_at w2 w2.heap.size [.int .i64 T.t, .int .i64 T.m, .int .i64 T.fa, .int .i64 T.ak, .int .i64 T.er, .int .i64 T.rj, .int .i64 T.q0, .int .i64 T.q1, .int .i64 T.q2, .int .i64 T.q3, .int .i64 T.d0, .int .i64 T.d1, .int .i64 T.d2] 25 rfl).below b3
  have L3 := bel_then (bel_al L2 _) b3
  have B3 := (B2.alloc (.cells #[.int .i64 T.t, .int .i64 T.m, .int .i64 T.fa, .int .i64 T.ak, .int .i64 T.er, .int .i64 T.rj, .int .i64 T.q0, .int .i64 T.q1, .int .i64 T.q2, .int .i64 T.q3, .int .i64 T.d0, .int .i64 T.d1, .int .i64 T.d2] 25)).below b3
  have y3 := B3.lies
  have x3 := X3.lies
  clear b3 L2 B2 a0 a1
  have c0 : w3.cell? ⟨w2.heap.size, 0, none⟩ = some (.int .i64 T.t) := X3.c 0 (of_decide_eq_true rfl)
  have c1 : w3.cell? ⟨w2.heap.size, 1, none⟩ = some (.int .i64 T.m) := X3.c 1 (of_decide_eq_true rfl)
  have c2 : w3.cell? ⟨w2.heap.size, 2, none⟩ = some (.int .i64 T.fa) := X3.c 2 (of_decide_eq_true rfl)
  have c3 : w3.cell? ⟨w2.heap.size, 3, none⟩ = some (.int .i64 T.ak) := X3.c 3 (of_decide_eq_true rfl)
  have c4 : w3.cell? ⟨w2.heap.size, 4, none⟩ = some (.int .i64 T.er) := X3.c 4 (of_decide_eq_true rfl)
  have c5 : w3.cell? ⟨w2.heap.size, 5, none⟩ = some (.int .i64 T.rj) := X3.c 5 (of_decide_eq_true rfl)
  have c6 : w3.cell? ⟨w2.heap.size, 6, none⟩ = some (.int .i64 T.q0) := X3.c 6 (of_decide_eq_true rfl)
  have c7 : w3.cell? ⟨w2.heap.size, 7, none⟩ = some (.int .i64 T.q1) := X3.c 7 (of_decide_eq_true rfl)
  have c8 : w3.cell? ⟨w2.heap.size, 8, none⟩ = some (.int .i64 T.q2) := X3.c 8 (of_decide_eq_true rfl)
  have c9 : w3.cell? ⟨w2.heap.size, 9, none⟩ = some (.int .i64 T.q3) := X3.c 9 (of_decide_eq_true rfl)
  have c10 : w3.cell? ⟨w2.heap.size, 10, none⟩ = some (.int .i64 T.d0) := X3.c 10 (of_decide_eq_true rfl)
  have c11 : w3.cell? ⟨w2.heap.size, 11, none⟩ = some (.int .i64 T.d1) := X3.c 11 (of_decide_eq_true rfl)
  have c12 : w3.cell? ⟨w2.heap.size, 12, none⟩ = some (.int .i64 T.d2) := X3.c 12 (of_decide_eq_true rfl)
  go_wp2_with fail
  refine (hw _).mono ?_
  rintro e w4 ⟨rfl, b4⟩
  have L4 := bel_then (bel_al L3 _) b4
  have B4 := (B3.alloc (.cells #[.int .i64 T.t, .int .i64 T.m, .int .i64 T.fa, .int .i64 T.ak, .int .i64 T.er, .int .i64 T.rj, .int .i64 T.q0, .int .i64 T.q1, .int .i64 T.q2, .int .i64 T.q3, .int .i64 T.d0, .int .i64 T.d1, .int .i64 T.d2] 25)).below b4
  have y4 := B4.lies
  clear b4 L3 B3 X3 c0 c1 c2 c3 c4 c5 c6 c7 c8 c9 c10 c11 c12
  have a0 : w4.cell? ⟨w.heap.size, 0, none⟩ = some (.int .i64 32) := B4.c 0 (of_decide_eq_true rfl)
  have a1 : w4.cell? ⟨w.heap.size, 1, none⟩ = some (.string s) := B4.c 1 (of_decide_eq_true rfl)
  go_wp2_with (with_reducible refine post_stop ?_)
  exact ⟨bodyPost_ret (v := .bool true) (by simp [results, Try.results4, go_sem]) rfl ⟨rfl, bel_al L4 _⟩⟩
set_option maxHeartbeats 4000000 in
set_option maxRecDepth 100000 in
theorem TelemReads_any (k : Int) (s : ByteArray) (w : World) :
    Calls Try.prog 4 #[.agg #[.int .i64 k, .string s]] w fun e w' => e = .returned (.bool true) ∧ Below w.heap.size w w' := by
  by_cases h : k = 32 ∧ s.size = 26 ∧ tlOk (tlE s) = true
  · obtain ⟨rfl, hs, h⟩ := h
    exact trd_yes s w hs h
  · exact trd_no k s w h
end Go.Proofs.Ytchkedlfackfgaa
