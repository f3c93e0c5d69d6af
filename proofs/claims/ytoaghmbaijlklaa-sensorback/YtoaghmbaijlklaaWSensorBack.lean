/-
  SensorBack, walked, for the seat Ytoaghmbaijlklaa.
-/
import Derived.Test.YtoaghmbaijlklaaSenAwake
import Derived.Test.YtoaghmbaijlklaaSenBackM
namespace Go.Proofs.Ytoaghmbaijlklaa
open Go.RowKit

set_option maxHeartbeats 2000000 in
set_option maxRecDepth 100000 in
theorem back_no (k t : Int) (cf : Nat → Int) (w : World) (hw : ∀ W : World, Calls Try.prog 11 #[.int .i64 k, .int .i64 t, .agg (row 6 cf).toArray] W fun e w' => e = .returned (.tuple #[.agg #[.int .i64 0, .string ⟨#[]⟩], .bool false]) ∧ Below W.heap.size W w') :
    Calls Try.prog 6 #[.int .i64 k, .int .i64 t, .agg (row 6 cf).toArray] w fun e w' => e = .returned (.bool true) ∧ Below w.heap.size w w' := by
  rw [show (row 6 cf).toArray = #[.int .i64 (cf 0), .int .i64 (cf 1), .int .i64 (cf 2), .int .i64 (cf 3), .int .i64 (cf 4), .int .i64 (cf 5)] from rfl] at *
  go_enter Try.func6, Try.ntmps6
  go_wp2_with fail
  refine (awake_any _).mono ?_
  rintro e w1 ⟨rfl, b1⟩
  have L1 := bel_then (bel_al (Below.refl _ w) _) b1
  have B1 := (Arr_at w w.heap.size [.int .i64 (cf 0), .int .i64 (cf 1), .int .i64 (cf 2), .int .i64 (cf 3), .int .i64 (cf 4), .int .i64 (cf 5)] 32 rfl).below b1
  have c0 : w1.cell? ⟨w.heap.size, 0, none⟩ = some (.int .i64 (cf 0)) := B1.c 0 (of_decide_eq_true rfl)
  have c1 : w1.cell? ⟨w.heap.size, 1, none⟩ = some (.int .i64 (cf 1)) := B1.c 1 (of_decide_eq_true rfl)
  have c2 : w1.cell? ⟨w.heap.size, 2, none⟩ = some (.int .i64 (cf 2)) := B1.c 2 (of_decide_eq_true rfl)
  have c3 : w1.cell? ⟨w.heap.size, 3, none⟩ = some (.int .i64 (cf 3)) := B1.c 3 (of_decide_eq_true rfl)
  have c4 : w1.cell? ⟨w.heap.size, 4, none⟩ = some (.int .i64 (cf 4)) := B1.c 4 (of_decide_eq_true rfl)
  have c5 : w1.cell? ⟨w.heap.size, 5, none⟩ = some (.int .i64 (cf 5)) := B1.c 5 (of_decide_eq_true rfl)
  clear b1
  go_wp2_with fail
  refine (hw _).mono ?_
  rintro e w2 ⟨rfl, b2⟩
  have L2 := bel_then L1 b2
  have B2 := B1.below b2
  have z2 := B2.lies
  clear c0 c1 c2 c3 c4 c5 b2 B1 L1
  go_wp2_with (with_reducible refine post_stop ?_)
  exact ⟨bodyPost_ret (v := .bool true) (by simp [results, Try.results6, go_sem]) rfl ⟨rfl, bel_al L2 _⟩⟩
set_option maxHeartbeats 2000000 in
set_option maxRecDepth 100000 in
theorem back_none (k t : Int) (cf : Nat → Int) (S : ByteArray) (w : World) (hw : ∀ W : World, Calls Try.prog 11 #[.int .i64 k, .int .i64 t, .agg (row 6 cf).toArray] W fun e w' => e = .returned (.tuple #[.agg #[.int .i64 k, .string S], .bool true]) ∧ Below W.heap.size W w') (hr : ∀ W : World, Calls Try.prog 9 #[.agg #[.int .i64 k, .string S]] W fun e w' => e = .returned (.tuple #[rdV (0, 0, 0, 0, 0), .bool false]) ∧ Below W.heap.size W w') :
    Calls Try.prog 6 #[.int .i64 k, .int .i64 t, .agg (row 6 cf).toArray] w fun e w' => e = .returned (.bool true) ∧ Below w.heap.size w w' := by
  unfold rdV at hr
  rw [show (row 6 cf).toArray = #[.int .i64 (cf 0), .int .i64 (cf 1), .int .i64 (cf 2), .int .i64 (cf 3), .int .i64 (cf 4), .int .i64 (cf 5)] from rfl] at *
  go_enter Try.func6, Try.ntmps6
  go_wp2_with fail
  refine (awake_any _).mono ?_
  rintro e w1 ⟨rfl, b1⟩
  have L1 := bel_then (bel_al (Below.refl _ w) _) b1
  have B1 := (Arr_at w w.heap.size [.int .i64 (cf 0), .int .i64 (cf 1), .int .i64 (cf 2), .int .i64 (cf 3), .int .i64 (cf 4), .int .i64 (cf 5)] 32 rfl).below b1
  have c0 : w1.cell? ⟨w.heap.size, 0, none⟩ = some (.int .i64 (cf 0)) := B1.c 0 (of_decide_eq_true rfl)
  have c1 : w1.cell? ⟨w.heap.size, 1, none⟩ = some (.int .i64 (cf 1)) := B1.c 1 (of_decide_eq_true rfl)
  have c2 : w1.cell? ⟨w.heap.size, 2, none⟩ = some (.int .i64 (cf 2)) := B1.c 2 (of_decide_eq_true rfl)
  have c3 : w1.cell? ⟨w.heap.size, 3, none⟩ = some (.int .i64 (cf 3)) := B1.c 3 (of_decide_eq_true rfl)
  have c4 : w1.cell? ⟨w.heap.size, 4, none⟩ = some (.int .i64 (cf 4)) := B1.c 4 (of_decide_eq_true rfl)
  have c5 : w1.cell? ⟨w.heap.size, 5, none⟩ = some (.int .i64 (cf 5)) := B1.c 5 (of_decide_eq_true rfl)
  clear b1
  go_wp2_with fail
  refine (hw _).mono ?_
  rintro e w2 ⟨rfl, b2⟩
  have L2 := bel_then L1 b2
  have B2 := B1.below b2
  have z2 := B2.lies
  clear c0 c1 c2 c3 c4 c5 b2 B1 L1
  go_wp2_with fail
  refine (hr _).mono ?_
  rintro e w3 ⟨rfl, b3⟩
  have L3 := bel_then (bel_al L2 _) b3
  have B3 := (B2.alloc _).below b3
  have z3 := B3.lies
  clear b3
  go_wp2_with (with_reducible refine post_stop ?_)
  exact ⟨bodyPost_ret (v := .bool true) (by simp [results, Try.results6, go_sem]) rfl ⟨rfl, bel_al L3 _⟩⟩
set_option maxHeartbeats 2000000 in
set_option maxRecDepth 100000 in
theorem back_yes (k t v0 v1 v2 : Int) (cf : Nat → Int) (S : ByteArray) (w : World) (hw : ∀ W : World, Calls Try.prog 11 #[.int .i64 k, .int .i64 t, .agg (row 6 cf).toArray] W fun e w' => e = .returned (.tuple #[.agg #[.int .i64 k, .string S], .bool true]) ∧ Below W.heap.size W w') (hr : ∀ W : World, Calls Try.prog 9 #[.agg #[.int .i64 k, .string S]] W fun e w' => e = .returned (.tuple #[rdV (k, t, v0, v1, v2), .bool true]) ∧ Below W.heap.size W w')
    (hk : k ≠ 1 ∨ (k = 1 ∧ v0 = cf 0 * 33554432 ∧ v1 = cf 1 * 33554432 ∧ v2 = cf 2 * 33554432 ∧ (-32768 ≤ cf 0 ∧ cf 0 ≤ 32767) ∧ (-32768 ≤ cf 1 ∧ cf 1 ≤ 32767) ∧ (-32768 ≤ cf 2 ∧ cf 2 ≤ 32767))) :
    Calls Try.prog 6 #[.int .i64 k, .int .i64 t, .agg (row 6 cf).toArray] w fun e w' => e = .returned (.bool true) ∧ Below w.heap.size w w' := by
  unfold rdV at hr
  rw [show (row 6 cf).toArray = #[.int .i64 (cf 0), .int .i64 (cf 1), .int .i64 (cf 2), .int .i64 (cf 3), .int .i64 (cf 4), .int .i64 (cf 5)] from rfl] at *
  go_enter Try.func6, Try.ntmps6
  go_wp2_with fail
  refine (awake_any _).mono ?_
  rintro e w1 ⟨rfl, b1⟩
  have L1 := bel_then (bel_al (Below.refl _ w) _) b1
  have B1 := (Arr_at w w.heap.size [.int .i64 (cf 0), .int .i64 (cf 1), .int .i64 (cf 2), .int .i64 (cf 3), .int .i64 (cf 4), .int .i64 (cf 5)] 32 rfl).below b1
  have c0 : w1.cell? ⟨w.heap.size, 0, none⟩ = some (.int .i64 (cf 0)) := B1.c 0 (of_decide_eq_true rfl)
  have c1 : w1.cell? ⟨w.heap.size, 1, none⟩ = some (.int .i64 (cf 1)) := B1.c 1 (of_decide_eq_true rfl)
  have c2 : w1.cell? ⟨w.heap.size, 2, none⟩ = some (.int .i64 (cf 2)) := B1.c 2 (of_decide_eq_true rfl)
  have c3 : w1.cell? ⟨w.heap.size, 3, none⟩ = some (.int .i64 (cf 3)) := B1.c 3 (of_decide_eq_true rfl)
  have c4 : w1.cell? ⟨w.heap.size, 4, none⟩ = some (.int .i64 (cf 4)) := B1.c 4 (of_decide_eq_true rfl)
  have c5 : w1.cell? ⟨w.heap.size, 5, none⟩ = some (.int .i64 (cf 5)) := B1.c 5 (of_decide_eq_true rfl)
  clear b1
  go_wp2_with fail
  refine (hw _).mono ?_
  rintro e w2 ⟨rfl, b2⟩
  have L2 := bel_then L1 b2
  have B2 := B1.below b2
  have z2 := B2.lies
  clear c0 c1 c2 c3 c4 c5 b2 B1 L1
  go_wp2_with fail
  refine (hr _).mono ?_
  rintro e w3 ⟨rfl, b3⟩
  have L3 := bel_then (bel_al L2 _) b3
  have B3 := (B2.alloc _).below b3
  have z3 := B3.lies
  clear b3
  have c0 : w3.cell? ⟨w.heap.size, 0, none⟩ = some (.int .i64 (cf 0)) := B3.c 0 (of_decide_eq_true rfl)
  have c1 : w3.cell? ⟨w.heap.size, 1, none⟩ = some (.int .i64 (cf 1)) := B3.c 1 (of_decide_eq_true rfl)
  have c2 : w3.cell? ⟨w.heap.size, 2, none⟩ = some (.int .i64 (cf 2)) := B3.c 2 (of_decide_eq_true rfl)
  have c3 : w3.cell? ⟨w.heap.size, 3, none⟩ = some (.int .i64 (cf 3)) := B3.c 3 (of_decide_eq_true rfl)
  have c4 : w3.cell? ⟨w.heap.size, 4, none⟩ = some (.int .i64 (cf 4)) := B3.c 4 (of_decide_eq_true rfl)
  have c5 : w3.cell? ⟨w.heap.size, 5, none⟩ = some (.int .i64 (cf 5)) := B3.c 5 (of_decide_eq_true rfl)
  rcases hk with hk | ⟨rfl, e0, e1, e2, q0, q1, q2⟩
  · have k1 : (k == 1) = false := by simpa using hk
    clear hk
    go_wp2_with fail
    refine wp_loop_rounds 4 ?_
    rw [rounds_succ]
    go_wp2_with fail
    rw [rounds_succ]
    go_wp2_with fail
    rw [rounds_succ]
    go_wp2_with fail
    rw [rounds_succ]
    go_wp2_with (with_reducible refine post_stop ?_)
    exact ⟨bodyPost_ret (v := .bool true) (by simp [results, Try.results6, go_sem]) rfl ⟨rfl, bel_al L3 _⟩⟩
  · subst e0 e1 e2
    generalize cf 0 = a at *
    generalize cf 1 = b at *
    generalize cf 2 = c at *
    go_wp2_with fail
    refine wp_loop_rounds 4 ?_
    rw [rounds_succ]
    go_wp2_with fail
    rw [rounds_succ]
    go_wp2_with fail
    rw [rounds_succ]
    go_wp2_with fail
    rw [rounds_succ]
    go_wp2_with (with_reducible refine post_stop ?_)
    exact ⟨bodyPost_ret (v := .bool true) (by simp [results, Try.results6, go_sem]) rfl ⟨rfl, bel_al L3 _⟩⟩
theorem SensorBack_any (k t : Int) (cf : Nat → Int) (w : World) : Calls Try.prog 6 #[.int .i64 k, .int .i64 t, .agg (row 6 cf).toArray] w fun e w' => e = .returned (.bool true) ∧ Below w.heap.size w w' := by
  have hw := swrite_any k t cf
  cases ho : writeOk k t cf
  · have e : writeS k t cf = (0, ⟨#[]⟩) := by unfold writeS; rw [ho]; rfl
    rw [ho, e] at hw
    exact back_no k t cf w hw
  · have e : writeS k t cf = (k, strOf (writeL k t cf)) := by unfold writeS; rw [ho]; rfl
    rw [ho, e] at hw
    have hz := write_size k t cf
    have hn : (nCounts k).toNat ≤ 6 := by unfold nCounts; split <;> (try split) <;> decide
    have hr := fun W => sread_any k (strOf (writeL k t cf)) W (by rw [hz]; unfold maxLen; omega)
    cases hq : readOk k (strOf (writeL k t cf))
    · have e2 : readR k (strOf (writeL k t cf)) = (0, 0, 0, 0, 0) := by unfold readR; rw [hq]; rfl
      rw [hq, e2] at hr
      exact back_none k t cf _ w hw hr
    · obtain ⟨v, e2, h1⟩ := back_read ho hq
      rw [hq, e2] at hr
      refine back_yes k t v.1 v.2.1 v.2.2 cf _ w hw hr ?_
      by_cases c : k = 1
      · right
        have hv := h1 c
        subst c
        have f0 := sg_rng (cnt_lt (strOf (writeL 1 t cf)) (6 + 2 * 0))
        have f1 := sg_rng (cnt_lt (strOf (writeL 1 t cf)) (6 + 2 * 1))
        have f2 := sg_rng (cnt_lt (strOf (writeL 1 t cf)) (6 + 2 * 2))
        rw [back_cnt ho 0 (by decide)] at f0
        rw [back_cnt ho 1 (by decide)] at f1
        rw [back_cnt ho 2 (by decide)] at f2
        rw [hv]
        exact ⟨rfl, rfl, rfl, rfl, f0, f1, f2⟩
      · exact Or.inl c
end Go.Proofs.Ytoaghmbaijlklaa
