/-
  That the laws of stage 15 are awake, for the seat Ytocnaflhedccpaa. (Made by mkmode.py.)
-/
import Derived.Test.YtocnaflhedccpaaMdNext
import Derived.Laws.StructEq
import Derived.Handy
namespace Go.Proofs.Ytocnaflhedccpaa
open Go.RowKit

structure WfPl (p : Pl) : Prop where
  m : I64 p.mode
  c : I64 p.calm
  g : I64 p.good
  i : I64 p.miss
  l : I64 p.lost
  f : I64 p.faults
def goodS : Sn := ⟨false, true, true, true, true, false, true, 0⟩
@[go_sem high] theorem field_mode (a b c d e f : Int) (w : World) : (Instr.field 23 (.agg #[.int .i64 a, .int .i64 b, .int .i64 c, .int .i64 d, .int .i64 e, .int .i64 f]) 0).run Try.prog w = .ok (.int .i64 a) w := by kernel_rfl
set_option maxHeartbeats 1000000 in
theorem good_any (w : World) : Calls Try.prog 11 #[] w fun e w' => e = .returned (.agg #[.bool false, .bool true, .bool true, .bool true, .bool true, .bool false, .bool true, .int .i64 0]) ∧ Below w.heap.size w w' := by
  go_enter Try.func11, Try.ntmps11
  go_wp2_with (with_reducible refine post_stop ?_)
  exact ⟨bodyPost_ret (v := .agg #[.bool false, .bool true, .bool true, .bool true, .bool true, .bool false, .bool true, .int .i64 0]) (by simp [results, Try.results11, go_sem]) rfl ⟨rfl, bel_al (Below.refl _ _) _⟩⟩
theorem zero_i : I64 0 := ⟨by decide, by decide⟩
theorem one_i : I64 1 := ⟨by decide, by decide⟩
set_option maxRecDepth 100000 in
set_option maxHeartbeats 1000000 in
theorem awake_any (w : World) : Calls Try.prog 8 #[] w fun e w' => e = .returned (.bool true) ∧ Below w.heap.size w w' := by
  have h1 := fun W => next_any 1 0 0 0 0 0 false true true true true false true 0 W zero_i zero_i zero_i zero_i
  have h2 := fun W => next_any 1 0 1 0 0 0 false true true true true false true 0 W zero_i one_i zero_i zero_i
  rw [show nextS ⟨1, 0, 0, 0, 0, 0⟩ ⟨false, true, true, true, true, false, true, 0⟩ = ⟨1, 0, 1, 0, 0, 0⟩ from rfl] at h1
  rw [show nextS ⟨1, 0, 1, 0, 0, 0⟩ ⟨false, true, true, true, true, false, true, 0⟩ = ⟨2, 0, 0, 0, 0, 0⟩ from rfl] at h2
  unfold plV at h1 h2
  go_enter Try.func8, Try.ntmps8
  go_wp2_with fail
  refine (good_any _).mono ?_
  rintro e w1 ⟨rfl, b1⟩
  go_wp2_with fail
  refine (h1 _).mono ?_
  rintro e w2 ⟨rfl, b2⟩
  go_wp2_with fail
  refine (good_any _).mono ?_
  rintro e w3 ⟨rfl, b3⟩
  go_wp2_with fail
  refine (h2 _).mono ?_
  rintro e w4 ⟨rfl, b4⟩
  go_wp2_with (with_reducible refine post_stop ?_)
  exact ⟨bodyPost_ret (v := .bool true) (by simp [results, Try.results8, go_sem]) rfl ⟨rfl, bel_al (bel_then (bel_then (bel_then b1 b2) b3) b4) _⟩⟩
end Go.Proofs.Ytocnaflhedccpaa
