/-
  OrdersWrite, walked, for the seat Ytpceomcnknjiiaa. (Made by mkod2.py.)
-/
import Derived.Test.YtpceomcnknjiiaaOdAwake
import Derived.Test.YtpceomcnknjiiaaOdRW
import Derived.Test.YtpceomcnknjiiaaOdBack
namespace Go.Proofs.Ytpceomcnknjiiaa
open Go.RowKit

set_option maxHeartbeats 4000000 in
set_option maxRecDepth 100000 in
theorem write_no (q c : Int) (o : V7) (w : World) (h : ordOk q c o = false) :
    Calls Try.prog 3 #[.agg #[.int .i64 q, .int .i64 c, .int .i64 o.1, .int .i64 o.2.1, .int .i64 o.2.2.1, .int .i64 o.2.2.2.1, .int .i64 o.2.2.2.2.1, .int .i64 o.2.2.2.2.2.1, .int .i64 o.2.2.2.2.2.2]] w fun e w' => e = .returned (.bool true) ∧ Below w.heap.size w w' := by
  have hw := owrite_any q c o
  have hv := rorder_any q c o
  have e : ordW q c o = (0, ⟨#[]⟩) := by unfold ordW; rw [h]; rfl
  rw [e, h] at hw hv
  clear e
  go_enter Try.func3, Try.ntmps3
  go_wp2_with fail
  refine (awake_any _).mono ?_
  rintro e w1 ⟨rfl, b1⟩
  have L1 := bel_then (bel_al (Below.refl _ w) _) b1
  have B1 := (Arr_at w w.heap.size [.int .i64 q, .int .i64 c, .int .i64 o.1, .int .i64 o.2.1, .int .i64 o.2.2.1, .int .i64 o.2.2.2.1, .int .i64 o.2.2.2.2.1, .int .i64 o.2.2.2.2.2.1, .int .i64 o.2.2.2.2.2.2] 25 rfl).below b1
  have a0 : w1.cell? ⟨w.heap.size, 0, none⟩ = some (.int .i64 q) := B1.c 0 (of_decide_eq_true rfl)
  have a1 : w1.cell? ⟨w.heap.size, 1, none⟩ = some (.int .i64 c) := B1.c 1 (of_decide_eq_true rfl)
  have a2 : w1.cell? ⟨w.heap.size, 2, none⟩ = some (.int .i64 o.1) := B1.c 2 (of_decide_eq_true rfl)
  have a3 : w1.cell? ⟨w.heap.size, 3, none⟩ = some (.int .i64 o.2.1) := B1.c 3 (of_decide_eq_true rfl)
  have a4 : w1.cell? ⟨w.heap.size, 4, none⟩ = some (.int .i64 o.2.2.1) := B1.c 4 (of_decide_eq_true rfl)
  have a5 : w1.cell? ⟨w.heap.size, 5, none⟩ = some (.int .i64 o.2.2.2.1) := B1.c 5 (of_decide_eq_true rfl)
  have a6 : w1.cell? ⟨w.heap.size, 6, none⟩ = some (.int .i64 o.2.2.2.2.1) := B1.c 6 (of_decide_eq_true rfl)
  have a7 : w1.cell? ⟨w.heap.size, 7, none⟩ = some (.int .i64 o.2.2.2.2.2.1) := B1.c 7 (of_decide_eq_true rfl)
  have a8 : w1.cell? ⟨w.heap.size, 8, none⟩ = some (.int .i64 o.2.2.2.2.2.2) := B1.c 8 (of_decide_eq_true rfl)
  have y1 := B1.lies
  clear b1
  go_wp2_with fail
  refine (hw _).mono ?_
  rintro e w2 ⟨rfl, b2⟩
  have L2 := bel_then L1 b2
  have B2 := B1.below b2
  have y2 := B2.lies
  clear b2 L1 B1 y1 a0 a1 a2 a3 a4 a5 a6 a7 a8
  have a0 : w2.cell? ⟨w.heap.size, 0, none⟩ = some (.int .i64 q) := B2.c 0 (of_decide_eq_true rfl)
  have a1 : w2.cell? ⟨w.heap.size, 1, none⟩ = some (.int .i64 c) := B2.c 1 (of_decide_eq_true rfl)
  have a2 : w2.cell? ⟨w.heap.size, 2, none⟩ = some (.int .i64 o.1) := B2.c 2 (of_decide_eq_true rfl)
  have a3 : w2.cell? ⟨w.heap.size, 3, none⟩ = some (.int .i64 o.2.1) := B2.c 3 (of_decide_eq_true rfl)
  have a4 : w2.cell? ⟨w.heap.size, 4, none⟩ = some (.int .i64 o.2.2.1) := B2.c 4 (of_decide_eq_true rfl)
  have a5 : w2.cell? ⟨w.heap.size, 5, none⟩ = some (.int .i64 o.2.2.2.1) := B2.c 5 (of_decide_eq_true rfl)
  have a6 : w2.cell? ⟨w.heap.size, 6, none⟩ = some (.int .i64 o.2.2.2.2.1) := B2.c 6 (of_decide_eq_true rfl)
  have a7 : w2.cell? ⟨w.heap.size, 7, none⟩ = some (.int .i64 o.2.2.2.2.2.1) := B2.c 7 (of_decide_eq_true rfl)
  have a8 : w2.cell? ⟨w.heap.size, 8, none⟩ = some (.int .i64 o.2.2.2.2.2.2) := B2.c 8 (of_decide_eq_true rfl)
  go_wp2_with fail
  refine (hv _).mono ?_
  rintro e w3 ⟨rfl, b3⟩
  have X3 := (Arr_at w2 w2.heap.size [.int .i64 0, .string ⟨#[]⟩] 28 rfl).below b3
  have L3 := bel_then (bel_al L2 _) b3
  have B3 := (B2.alloc (.cells #[.int .i64 0, .string ⟨#[]⟩] 28)).below b3
  have y3 := B3.lies
  have x3 := X3.lies
  clear b3 L2 B2 a0 a1 a2 a3 a4 a5 a6 a7 a8
  have c0 : w3.cell? ⟨w2.heap.size, 0, none⟩ = some (.int .i64 0) := X3.c 0 (of_decide_eq_true rfl)
  have c1 : w3.cell? ⟨w2.heap.size, 1, none⟩ = some (.string ⟨#[]⟩) := X3.c 1 (of_decide_eq_true rfl)
  go_wp2_with (with_reducible refine post_stop ?_)
  exact ⟨bodyPost_ret (v := .bool true) (by simp [results, Try.results3, go_sem]) rfl ⟨rfl, bel_al L3 _⟩⟩
set_option maxHeartbeats 4000000 in
set_option maxRecDepth 100000 in
theorem write_three (q c : Int) (o : V7) (w : World) (h : ordOk q c o = true) (ho : In7 o) (h3 : c = 3) :
    Calls Try.prog 3 #[.agg #[.int .i64 q, .int .i64 c, .int .i64 o.1, .int .i64 o.2.1, .int .i64 o.2.2.1, .int .i64 o.2.2.2.1, .int .i64 o.2.2.2.2.1, .int .i64 o.2.2.2.2.2.1, .int .i64 o.2.2.2.2.2.2]] w fun e w' => e = .returned (.bool true) ∧ Below w.heap.size w w' := by
  have hw := owrite_any q c o
  have hv := rorder_any q c o
  have e : ordW q c o = (16, strOf (ordL q c o)) := by unfold ordW; rw [h, if_pos rfl]
  have hr := oread_any 16 (strOf (ordL q c o))
  rw [ord_back h ho] at hr
  rw [e, h] at hw hv
  clear e h ho
  generalize strOf (ordL q c o) = S at *
  rw [if_pos h3] at hr
  have h3' : (c != 3) = false := by simpa using h3
  clear h3
  go_enter Try.func3, Try.ntmps3
  go_wp2_with fail
  refine (awake_any _).mono ?_
  rintro e w1 ⟨rfl, b1⟩
  have L1 := bel_then (bel_al (Below.refl _ w) _) b1
  have B1 := (Arr_at w w.heap.size [.int .i64 q, .int .i64 c, .int .i64 o.1, .int .i64 o.2.1, .int .i64 o.2.2.1, .int .i64 o.2.2.2.1, .int .i64 o.2.2.2.2.1, .int .i64 o.2.2.2.2.2.1, .int .i64 o.2.2.2.2.2.2] 25 rfl).below b1
  have a0 : w1.cell? ⟨w.heap.size, 0, none⟩ = some (.int .i64 q) := B1.c 0 (of_decide_eq_true rfl)
  have a1 : w1.cell? ⟨w.heap.size, 1, none⟩ = some (.int .i64 c) := B1.c 1 (of_decide_eq_true rfl)
  have a2 : w1.cell? ⟨w.heap.size, 2, none⟩ = some (.int .i64 o.1) := B1.c 2 (of_decide_eq_true rfl)
  have a3 : w1.cell? ⟨w.heap.size, 3, none⟩ = some (.int .i64 o.2.1) := B1.c 3 (of_decide_eq_true rfl)
  have a4 : w1.cell? ⟨w.heap.size, 4, none⟩ = some (.int .i64 o.2.2.1) := B1.c 4 (of_decide_eq_true rfl)
  have a5 : w1.cell? ⟨w.heap.size, 5, none⟩ = some (.int .i64 o.2.2.2.1) := B1.c 5 (of_decide_eq_true rfl)
  have a6 : w1.cell? ⟨w.heap.size, 6, none⟩ = some (.int .i64 o.2.2.2.2.1) := B1.c 6 (of_decide_eq_true rfl)
  have a7 : w1.cell? ⟨w.heap.size, 7, none⟩ = some (.int .i64 o.2.2.2.2.2.1) := B1.c 7 (of_decide_eq_true rfl)
  have a8 : w1.cell? ⟨w.heap.size, 8, none⟩ = some (.int .i64 o.2.2.2.2.2.2) := B1.c 8 (of_decide_eq_true rfl)
  have y1 := B1.lies
  clear b1
  go_wp2_with fail
  refine (hw _).mono ?_
  rintro e w2 ⟨rfl, b2⟩
  have L2 := bel_then L1 b2
  have B2 := B1.below b2
  have y2 := B2.lies
  clear b2 L1 B1 y1 a0 a1 a2 a3 a4 a5 a6 a7 a8
  have a0 : w2.cell? ⟨w.heap.size, 0, none⟩ = some (.int .i64 q) := B2.c 0 (of_decide_eq_true rfl)
  have a1 : w2.cell? ⟨w.heap.size, 1, none⟩ = some (.int .i64 c) := B2.c 1 (of_decide_eq_true rfl)
  have a2 : w2.cell? ⟨w.heap.size, 2, none⟩ = some (.int .i64 o.1) := B2.c 2 (of_decide_eq_true rfl)
  have a3 : w2.cell? ⟨w.heap.size, 3, none⟩ = some (.int .i64 o.2.1) := B2.c 3 (of_decide_eq_true rfl)
  have a4 : w2.cell? ⟨w.heap.size, 4, none⟩ = some (.int .i64 o.2.2.1) := B2.c 4 (of_decide_eq_true rfl)
  have a5 : w2.cell? ⟨w.heap.size, 5, none⟩ = some (.int .i64 o.2.2.2.1) := B2.c 5 (of_decide_eq_true rfl)
  have a6 : w2.cell? ⟨w.heap.size, 6, none⟩ = some (.int .i64 o.2.2.2.2.1) := B2.c 6 (of_decide_eq_true rfl)
  have a7 : w2.cell? ⟨w.heap.size, 7, none⟩ = some (.int .i64 o.2.2.2.2.2.1) := B2.c 7 (of_decide_eq_true rfl)
  have a8 : w2.cell? ⟨w.heap.size, 8, none⟩ = some (.int .i64 o.2.2.2.2.2.2) := B2.c 8 (of_decide_eq_true rfl)
  go_wp2_with fail
  refine (hv _).mono ?_
  rintro e w3 ⟨rfl, b3⟩
  have X3 := (Arr_at w2 w2.heap.size [.int .i64 16, .string S] 28 rfl).below b3
  have L3 := bel_then (bel_al L2 _) b3
  have B3 := (B2.alloc (.cells #[.int .i64 16, .string S] 28)).below b3
  have y3 := B3.lies
  have x3 := X3.lies
  clear b3 L2 B2 a0 a1 a2 a3 a4 a5 a6 a7 a8
  have c0 : w3.cell? ⟨w2.heap.size, 0, none⟩ = some (.int .i64 16) := X3.c 0 (of_decide_eq_true rfl)
  have c1 : w3.cell? ⟨w2.heap.size, 1, none⟩ = some (.string S) := X3.c 1 (of_decide_eq_true rfl)
  go_wp2_with fail
  refine (hr _).mono ?_
  rintro e w4 ⟨rfl, b4⟩
  have L4 := bel_then (bel_al L3 _) b4
  have B4 := (B3.alloc (.cells #[.int .i64 16, .string S] 28)).below b4
  have y4 := B4.lies
  clear b4 L3 B3 X3 c0 c1
  have a0 : w4.cell? ⟨w.heap.size, 0, none⟩ = some (.int .i64 q) := B4.c 0 (of_decide_eq_true rfl)
  have f0 := B4.f 0 (of_decide_eq_true rfl)
  have a1 : w4.cell? ⟨w.heap.size, 1, none⟩ = some (.int .i64 c) := B4.c 1 (of_decide_eq_true rfl)
  have f1 := B4.f 1 (of_decide_eq_true rfl)
  have a2 : w4.cell? ⟨w.heap.size, 2, none⟩ = some (.int .i64 o.1) := B4.c 2 (of_decide_eq_true rfl)
  have f2 := B4.f 2 (of_decide_eq_true rfl)
  have a3 : w4.cell? ⟨w.heap.size, 3, none⟩ = some (.int .i64 o.2.1) := B4.c 3 (of_decide_eq_true rfl)
  have f3 := B4.f 3 (of_decide_eq_true rfl)
  have a4 : w4.cell? ⟨w.heap.size, 4, none⟩ = some (.int .i64 o.2.2.1) := B4.c 4 (of_decide_eq_true rfl)
  have f4 := B4.f 4 (of_decide_eq_true rfl)
  have a5 : w4.cell? ⟨w.heap.size, 5, none⟩ = some (.int .i64 o.2.2.2.1) := B4.c 5 (of_decide_eq_true rfl)
  have f5 := B4.f 5 (of_decide_eq_true rfl)
  have a6 : w4.cell? ⟨w.heap.size, 6, none⟩ = some (.int .i64 o.2.2.2.2.1) := B4.c 6 (of_decide_eq_true rfl)
  have f6 := B4.f 6 (of_decide_eq_true rfl)
  have a7 : w4.cell? ⟨w.heap.size, 7, none⟩ = some (.int .i64 o.2.2.2.2.2.1) := B4.c 7 (of_decide_eq_true rfl)
  have f7 := B4.f 7 (of_decide_eq_true rfl)
  have a8 : w4.cell? ⟨w.heap.size, 8, none⟩ = some (.int .i64 o.2.2.2.2.2.2) := B4.c 8 (of_decide_eq_true rfl)
  have f8 := B4.f 8 (of_decide_eq_true rfl)
  go_wp2_with (with_reducible refine post_stop ?_)
  exact ⟨bodyPost_ret (v := .bool true) (by simp [results, Try.results3, go_sem]) rfl ⟨rfl, bel_al L4 _⟩⟩
set_option maxHeartbeats 4000000 in
set_option maxRecDepth 100000 in
theorem write_other (q c : Int) (o : V7) (w : World) (h : ordOk q c o = true) (ho : In7 o) (h3 : c ≠ 3) :
    Calls Try.prog 3 #[.agg #[.int .i64 q, .int .i64 c, .int .i64 o.1, .int .i64 o.2.1, .int .i64 o.2.2.1, .int .i64 o.2.2.2.1, .int .i64 o.2.2.2.2.1, .int .i64 o.2.2.2.2.2.1, .int .i64 o.2.2.2.2.2.2]] w fun e w' => e = .returned (.bool true) ∧ Below w.heap.size w w' := by
  have hw := owrite_any q c o
  have hv := rorder_any q c o
  have e : ordW q c o = (16, strOf (ordL q c o)) := by unfold ordW; rw [h, if_pos rfl]
  have hr := oread_any 16 (strOf (ordL q c o))
  rw [ord_back h ho] at hr
  rw [e, h] at hw hv
  clear e h ho
  generalize strOf (ordL q c o) = S at *
  rw [if_neg h3] at hr
  have h3' : (c != 3) = true := by simpa using h3
  unfold z7 at hr
  dsimp only at hr
  go_enter Try.func3, Try.ntmps3
  go_wp2_with fail
  refine (awake_any _).mono ?_
  rintro e w1 ⟨rfl, b1⟩
  have L1 := bel_then (bel_al (Below.refl _ w) _) b1
  have B1 := (Arr_at w w.heap.size [.int .i64 q, .int .i64 c, .int .i64 o.1, .int .i64 o.2.1, .int .i64 o.2.2.1, .int .i64 o.2.2.2.1, .int .i64 o.2.2.2.2.1, .int .i64 o.2.2.2.2.2.1, .int .i64 o.2.2.2.2.2.2] 25 rfl).below b1
  have a0 : w1.cell? ⟨w.heap.size, 0, none⟩ = some (.int .i64 q) := B1.c 0 (of_decide_eq_true rfl)
  have a1 : w1.cell? ⟨w.heap.size, 1, none⟩ = some (.int .i64 c) := B1.c 1 (of_decide_eq_true rfl)
  have a2 : w1.cell? ⟨w.heap.size, 2, none⟩ = some (.int .i64 o.1) := B1.c 2 (of_decide_eq_true rfl)
  have a3 : w1.cell? ⟨w.heap.size, 3, none⟩ = some (.int .i64 o.2.1) := B1.c 3 (of_decide_eq_true rfl)
  have a4 : w1.cell? ⟨w.heap.size, 4, none⟩ = some (.int .i64 o.2.2.1) := B1.c 4 (of_decide_eq_true rfl)
  have a5 : w1.cell? ⟨w.heap.size, 5, none⟩ = some (.int .i64 o.2.2.2.1) := B1.c 5 (of_decide_eq_true rfl)
  have a6 : w1.cell? ⟨w.heap.size, 6, none⟩ = some (.int .i64 o.2.2.2.2.1) := B1.c 6 (of_decide_eq_true rfl)
  have a7 : w1.cell? ⟨w.heap.size, 7, none⟩ = some (.int .i64 o.2.2.2.2.2.1) := B1.c 7 (of_decide_eq_true rfl)
  have a8 : w1.cell? ⟨w.heap.size, 8, none⟩ = some (.int .i64 o.2.2.2.2.2.2) := B1.c 8 (of_decide_eq_true rfl)
  have y1 := B1.lies
  clear b1
  go_wp2_with fail
  refine (hw _).mono ?_
  rintro e w2 ⟨rfl, b2⟩
  have L2 := bel_then L1 b2
  have B2 := B1.below b2
  have y2 := B2.lies
  clear b2 L1 B1 y1 a0 a1 a2 a3 a4 a5 a6 a7 a8
  have a0 : w2.cell? ⟨w.heap.size, 0, none⟩ = some (.int .i64 q) := B2.c 0 (of_decide_eq_true rfl)
  have a1 : w2.cell? ⟨w.heap.size, 1, none⟩ = some (.int .i64 c) := B2.c 1 (of_decide_eq_true rfl)
  have a2 : w2.cell? ⟨w.heap.size, 2, none⟩ = some (.int .i64 o.1) := B2.c 2 (of_decide_eq_true rfl)
  have a3 : w2.cell? ⟨w.heap.size, 3, none⟩ = some (.int .i64 o.2.1) := B2.c 3 (of_decide_eq_true rfl)
  have a4 : w2.cell? ⟨w.heap.size, 4, none⟩ = some (.int .i64 o.2.2.1) := B2.c 4 (of_decide_eq_true rfl)
  have a5 : w2.cell? ⟨w.heap.size, 5, none⟩ = some (.int .i64 o.2.2.2.1) := B2.c 5 (of_decide_eq_true rfl)
  have a6 : w2.cell? ⟨w.heap.size, 6, none⟩ = some (.int .i64 o.2.2.2.2.1) := B2.c 6 (of_decide_eq_true rfl)
  have a7 : w2.cell? ⟨w.heap.size, 7, none⟩ = some (.int .i64 o.2.2.2.2.2.1) := B2.c 7 (of_decide_eq_true rfl)
  have a8 : w2.cell? ⟨w.heap.size, 8, none⟩ = some (.int .i64 o.2.2.2.2.2.2) := B2.c 8 (of_decide_eq_true rfl)
  go_wp2_with fail
  refine (hv _).mono ?_
  rintro e w3 ⟨rfl, b3⟩
  have X3 := (Arr_at w2 w2.heap.size [.int .i64 16, .string S] 28 rfl).below b3
  have L3 := bel_then (bel_al L2 _) b3
  have B3 := (B2.alloc (.cells #[.int .i64 16, .string S] 28)).below b3
  have y3 := B3.lies
  have x3 := X3.lies
  clear b3 L2 B2 a0 a1 a2 a3 a4 a5 a6 a7 a8
  have c0 : w3.cell? ⟨w2.heap.size, 0, none⟩ = some (.int .i64 16) := X3.c 0 (of_decide_eq_true rfl)
  have c1 : w3.cell? ⟨w2.heap.size, 1, none⟩ = some (.string S) := X3.c 1 (of_decide_eq_true rfl)
  go_wp2_with fail
  refine (hr _).mono ?_
  rintro e w4 ⟨rfl, b4⟩
  have L4 := bel_then (bel_al L3 _) b4
  have B4 := (B3.alloc (.cells #[.int .i64 16, .string S] 28)).below b4
  have y4 := B4.lies
  clear b4 L3 B3 X3 c0 c1
  have a0 : w4.cell? ⟨w.heap.size, 0, none⟩ = some (.int .i64 q) := B4.c 0 (of_decide_eq_true rfl)
  have f0 := B4.f 0 (of_decide_eq_true rfl)
  have a1 : w4.cell? ⟨w.heap.size, 1, none⟩ = some (.int .i64 c) := B4.c 1 (of_decide_eq_true rfl)
  have f1 := B4.f 1 (of_decide_eq_true rfl)
  have a2 : w4.cell? ⟨w.heap.size, 2, none⟩ = some (.int .i64 o.1) := B4.c 2 (of_decide_eq_true rfl)
  have f2 := B4.f 2 (of_decide_eq_true rfl)
  have a3 : w4.cell? ⟨w.heap.size, 3, none⟩ = some (.int .i64 o.2.1) := B4.c 3 (of_decide_eq_true rfl)
  have f3 := B4.f 3 (of_decide_eq_true rfl)
  have a4 : w4.cell? ⟨w.heap.size, 4, none⟩ = some (.int .i64 o.2.2.1) := B4.c 4 (of_decide_eq_true rfl)
  have f4 := B4.f 4 (of_decide_eq_true rfl)
  have a5 : w4.cell? ⟨w.heap.size, 5, none⟩ = some (.int .i64 o.2.2.2.1) := B4.c 5 (of_decide_eq_true rfl)
  have f5 := B4.f 5 (of_decide_eq_true rfl)
  have a6 : w4.cell? ⟨w.heap.size, 6, none⟩ = some (.int .i64 o.2.2.2.2.1) := B4.c 6 (of_decide_eq_true rfl)
  have f6 := B4.f 6 (of_decide_eq_true rfl)
  have a7 : w4.cell? ⟨w.heap.size, 7, none⟩ = some (.int .i64 o.2.2.2.2.2.1) := B4.c 7 (of_decide_eq_true rfl)
  have f7 := B4.f 7 (of_decide_eq_true rfl)
  have a8 : w4.cell? ⟨w.heap.size, 8, none⟩ = some (.int .i64 o.2.2.2.2.2.2) := B4.c 8 (of_decide_eq_true rfl)
  have f8 := B4.f 8 (of_decide_eq_true rfl)
  go_wp2_with (with_reducible refine post_stop ?_)
  exact ⟨bodyPost_ret (v := .bool true) (by simp [results, Try.results3, go_sem]) rfl ⟨rfl, bel_al (bel_new (bel_new (bel_new (bel_new (bel_new (bel_new (bel_new L4 _ _ (by omega) _) _ _ (by omega) _) _ _ (by omega) _) _ _ (by omega) _) _ _ (by omega) _) _ _ (by omega) _) _ _ (by omega) _) _⟩⟩
theorem OrdersWrite_any (q c : Int) (o : V7) (w : World) (ho : In7 o) :
    Calls Try.prog 3 #[.agg #[.int .i64 q, .int .i64 c, .int .i64 o.1, .int .i64 o.2.1, .int .i64 o.2.2.1, .int .i64 o.2.2.2.1, .int .i64 o.2.2.2.2.1, .int .i64 o.2.2.2.2.2.1, .int .i64 o.2.2.2.2.2.2]] w fun e w' => e = .returned (.bool true) ∧ Below w.heap.size w w' := by
  cases h : ordOk q c o
  · exact write_no q c o w h
  · by_cases h3 : c = 3
    · exact write_three q c o w h ho h3
    · exact write_other q c o w h ho h3
end Go.Proofs.Ytpceomcnknjiiaa
