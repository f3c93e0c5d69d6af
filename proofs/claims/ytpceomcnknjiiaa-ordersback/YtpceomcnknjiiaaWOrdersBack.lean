/-
  OrdersBack, walked, for the seat Ytpceomcnknjiiaa. (Made by mkod2.py.)
-/
import Derived.Test.YtpceomcnknjiiaaOdAwake
import Derived.Test.YtpceomcnknjiiaaOdBack
namespace Go.Proofs.Ytpceomcnknjiiaa
open Go.RowKit

set_option maxHeartbeats 4000000 in
set_option maxRecDepth 100000 in
theorem back_wrong (k : Int) (s : ByteArray) (w : World) (h : (ordR k s).2 ≠ 0) :
    Calls Try.prog 4 #[.agg #[.int .i64 k, .string s]] w fun e w' => e = .returned (.bool true) ∧ Below w.heap.size w w' := by
  have hr := oread_any k s
  obtain ⟨e1, e2⟩ := ord_zero h
  generalize ordR k s = r at *
  obtain ⟨⟨q, c, o⟩, x⟩ := r
  dsimp only at e1 e2 h hr
  obtain ⟨rfl, rfl⟩ := Prod.mk.inj e1
  unfold z7 at hr
  dsimp only at hr
  have hx : (x != 0) = true := by simpa using h
  clear e1
  go_enter Try.func4, Try.ntmps4
  go_wp2_with fail
  refine (awake_any _).mono ?_
  rintro e w1 ⟨rfl, b1⟩
  have L1 := bel_then (bel_al (Below.refl _ w) _) b1
  have B1 := (Arr_at w w.heap.size [.int .i64 k, .string s] 28 rfl).below b1
  have a0 : w1.cell? ⟨w.heap.size, 0, none⟩ = some (.int .i64 k) := B1.c 0 (of_decide_eq_true rfl)
  have a1 : w1.cell? ⟨w.heap.size, 1, none⟩ = some (.string s) := B1.c 1 (of_decide_eq_true rfl)
  have y1 := B1.lies
  clear b1
  go_wp2_with fail
  refine (hr _).mono ?_
  rintro e w2 ⟨rfl, b2⟩
  have L2 := bel_then L1 b2
  have B2 := B1.below b2
  have y2 := B2.lies
  clear b2 L1 B1 y1 a0 a1
  go_wp2_with (with_reducible refine post_stop ?_)
  exact ⟨bodyPost_ret (v := .bool true) (by simp [results, Try.results4, go_sem]) rfl ⟨rfl, bel_al L2 _⟩⟩
set_option maxHeartbeats 4000000 in
set_option maxRecDepth 100000 in
theorem back_right (k : Int) (s : ByteArray) (w : World) (h : (ordR k s).2 = 0) :
    Calls Try.prog 4 #[.agg #[.int .i64 k, .string s]] w fun e w' => e = .returned (.bool true) ∧ Below w.heap.size w w' := by
  have hr := oread_any k s
  obtain ⟨e1, e2, e3⟩ := ord_there h
  subst e1
  rw [h] at hr
  clear h
  have hw := owrite_any (ordR 16 s).1.1 (ordR 16 s).1.2.1 (ordR 16 s).1.2.2
  unfold ordW at hw
  rw [e2, if_pos rfl, e3] at hw
  clear e2 e3
  generalize (ordR 16 s).1 = r at *
  obtain ⟨q, c, o⟩ := r
  dsimp only at hr hw
  go_enter Try.func4, Try.ntmps4
  go_wp2_with fail
  refine (awake_any _).mono ?_
  rintro e w1 ⟨rfl, b1⟩
  have L1 := bel_then (bel_al (Below.refl _ w) _) b1
  have B1 := (Arr_at w w.heap.size [.int .i64 16, .string s] 28 rfl).below b1
  have a0 : w1.cell? ⟨w.heap.size, 0, none⟩ = some (.int .i64 16) := B1.c 0 (of_decide_eq_true rfl)
  have a1 : w1.cell? ⟨w.heap.size, 1, none⟩ = some (.string s) := B1.c 1 (of_decide_eq_true rfl)
  have y1 := B1.lies
  clear b1
  go_wp2_with fail
  refine (hr _).mono ?_
  rintro e w2 ⟨rfl, b2⟩
  have L2 := bel_then L1 b2
  have B2 := B1.below b2
  have y2 := B2.lies
  clear b2 L1 B1 y1 a0 a1
  go_wp2_with fail
  refine (hw _).mono ?_
  rintro e w3 ⟨rfl, b3⟩
  have L3 := bel_then (bel_al L2 _) b3
  have B3 := (B2.alloc (.cells #[.int .i64 q, .int .i64 c, .int .i64 o.1, .int .i64 o.2.1, .int .i64 o.2.2.1, .int .i64 o.2.2.2.1, .int .i64 o.2.2.2.2.1, .int .i64 o.2.2.2.2.2.1, .int .i64 o.2.2.2.2.2.2] 25)).below b3
  have y3 := B3.lies
  clear b3 L2 B2
  have a0 : w3.cell? ⟨w.heap.size, 0, none⟩ = some (.int .i64 16) := B3.c 0 (of_decide_eq_true rfl)
  have a1 : w3.cell? ⟨w.heap.size, 1, none⟩ = some (.string s) := B3.c 1 (of_decide_eq_true rfl)
  go_wp2_with (with_reducible refine post_stop ?_)
  exact ⟨bodyPost_ret (v := .bool true) (by simp [results, Try.results4, go_sem]) rfl ⟨rfl, bel_al L3 _⟩⟩
theorem OrdersBack_any (k : Int) (s : ByteArray) (w : World) :
    Calls Try.prog 4 #[.agg #[.int .i64 k, .string s]] w fun e w' => e = .returned (.bool true) ∧ Below w.heap.size w w' := by
  by_cases h : (ordR k s).2 = 0
  · exact back_right k s w h
  · exact back_wrong k s w h
end Go.Proofs.Ytpceomcnknjiiaa
