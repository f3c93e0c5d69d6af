/-
  SensorLong, walked, for the seat Ytoaghmbaijlklaa.
-/
import Derived.Test.YtoaghmbaijlklaaSenAwake
import Derived.Test.YtoaghmbaijlklaaSenLongM
namespace Go.Proofs.Ytoaghmbaijlklaa
open Go.RowKit

theorem sq_rng {f : Int} (h : -125829120 ≤ f ∧ f ≤ 125829120) : 0 ≤ f * f ∧ f * f ≤ 15832967439974400 := by
  have := absmul h h
  have := sq_nonneg f
  omega
set_option maxHeartbeats 2000000 in
set_option maxRecDepth 100000 in
theorem long_no (k : Int) (s : ByteArray) (r : Int × Int × V3) (w : World) (hr : ∀ W : World, Calls Try.prog 9 #[.agg #[.int .i64 k, .string s]] W fun e w' => e = .returned (.tuple #[rdV r, .bool false]) ∧ Below W.heap.size W w') :
    Calls Try.prog 7 #[.agg #[.int .i64 k, .string s]] w fun e w' => e = .returned (.bool true) ∧ Below w.heap.size w w' := by
  unfold rdV at hr
  go_enter Try.func7, Try.ntmps7
  go_wp2_with fail
  refine (awake_any _).mono ?_
  rintro e w1 ⟨rfl, b1⟩
  have L1 := bel_then (bel_al (Below.refl _ w) _) b1
  have B1 := (Arr_at w w.heap.size [.int .i64 k, .string s] 23 rfl).below b1
  have c0 : w1.cell? ⟨w.heap.size, 0, none⟩ = some (.int .i64 k) := B1.c 0 (of_decide_eq_true rfl)
  have c1 : w1.cell? ⟨w.heap.size, 1, none⟩ = some (.string s) := B1.c 1 (of_decide_eq_true rfl)
  go_wp2_with fail
  refine (hr _).mono ?_
  rintro e w2 ⟨rfl, b2⟩
  have L2 := bel_then L1 b2
  clear b1 b2 B1 L1 c0 c1
  go_wp2_with (with_reducible refine post_stop ?_)
  exact ⟨bodyPost_ret (v := .bool true) (by simp [results, Try.results7, go_sem]) rfl ⟨rfl, bel_al L2 _⟩⟩
set_option maxHeartbeats 2000000 in
set_option maxRecDepth 100000 in
theorem long_yes (k t v0 v1 v2 f0 f1 f2 : Int) (s : ByteArray) (w : World) (hr : ∀ W : World, Calls Try.prog 9 #[.agg #[.int .i64 k, .string s]] W fun e w' => e = .returned (.tuple #[rdV (k, t, v0, v1, v2), .bool true]) ∧ Below W.heap.size W w')
    (e0 : v0 / 1048576 = f0) (e1 : v1 / 1048576 = f1) (e2 : v2 / 1048576 = f2) (q0 : 0 ≤ f0 * f0 ∧ f0 * f0 ≤ 15832967439974400) (q1 : 0 ≤ f1 * f1 ∧ f1 * f1 ≤ 15832967439974400) (q2 : 0 ≤ f2 * f2 ∧ f2 * f2 ≤ 15832967439974400)
    (h : k = 1 ∨ (k = 2 ∧ 1099494850560 < f0 * f0 + f1 * f1 + f2 * f2 ∧ f0 * f0 + f1 * f1 + f2 * f2 < 1099528404992) ∨ (k = 3 ∧ 1099494850560 < f0 * f0 + f1 * f1 + f2 * f2 ∧ f0 * f0 + f1 * f1 + f2 * f2 < 15832968513716224)) :
    Calls Try.prog 7 #[.agg #[.int .i64 k, .string s]] w fun e w' => e = .returned (.bool true) ∧ Below w.heap.size w w' := by
  unfold rdV at hr
  go_enter Try.func7, Try.ntmps7
  go_wp2_with fail
  refine (awake_any _).mono ?_
  rintro e w1 ⟨rfl, b1⟩
  have L1 := bel_then (bel_al (Below.refl _ w) _) b1
  have B1 := (Arr_at w w.heap.size [.int .i64 k, .string s] 23 rfl).below b1
  have c0 : w1.cell? ⟨w.heap.size, 0, none⟩ = some (.int .i64 k) := B1.c 0 (of_decide_eq_true rfl)
  have c1 : w1.cell? ⟨w.heap.size, 1, none⟩ = some (.string s) := B1.c 1 (of_decide_eq_true rfl)
  go_wp2_with fail
  refine (hr _).mono ?_
  rintro e w2 ⟨rfl, b2⟩
  have L2 := bel_then L1 b2
  clear b1 b2 B1 L1 c0 c1
  go_wp2_with fail
  refine wp_loop_rounds 4 ?_
  rw [rounds_succ]
  go_wp2_with fail
  rw [rounds_succ]
  go_wp2_with fail
  rw [rounds_succ]
  go_wp2_with fail
  rw [rounds_succ]
  rcases h with rfl | ⟨rfl, h0, h1⟩ | ⟨rfl, h0, h1⟩
  all_goals
    go_wp2_with (with_reducible refine post_stop ?_)
    exact ⟨bodyPost_ret (v := .bool true) (by simp [results, Try.results7, go_sem]) rfl ⟨rfl, bel_al L2 _⟩⟩
theorem SensorLong_any (k : Int) (s : ByteArray) (w : World) (hs : s.size ≤ maxLen) : Calls Try.prog 7 #[.agg #[.int .i64 k, .string s]] w fun e w' => e = .returned (.bool true) ∧ Below w.heap.size w w' := by
  have hr := fun W => sread_any k s W hs
  cases ho : readOk k s
  · rw [ho] at hr
    exact long_no k s _ w hr
  · obtain ⟨hk, v, e, l⟩ := read_long ho
    rw [ho, e] at hr
    have b0 := l.b0
    have b1 := l.b1
    have b2 := l.b2
    refine long_yes k (tickS s) v.1 v.2.1 v.2.2 _ _ _ s w hr rfl rfl rfl (sq_rng (by omega)) (sq_rng (by omega)) (sq_rng (by omega)) ?_
    rcases hk with h | h | h
    · exact Or.inl h
    · exact Or.inr (Or.inl ⟨h, l.sun h _ _ _ rfl rfl rfl⟩)
    · exact Or.inr (Or.inr ⟨h, l.mag h _ _ _ rfl rfl rfl⟩)
end Go.Proofs.Ytoaghmbaijlklaa
