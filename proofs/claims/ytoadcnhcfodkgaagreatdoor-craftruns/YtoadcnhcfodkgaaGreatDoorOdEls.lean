/-
  Orders: elements and withElements, walked, for the seat YtoadcnhcfodkgaaGreatDoor. (Made by mkod.py.)
-/
import Derived.Test.YtoadcnhcfodkgaaGreatDoorOdLeaf
namespace Go.Proofs.YtoadcnhcfodkgaaGreatDoor
open Go.RowKit

@[go_sem] theorem idx_seven0 (a b c d e f g : Int) (w : World) : (Instr.index 224 (.agg #[.int .i64 a, .int .i64 b, .int .i64 c, .int .i64 d, .int .i64 e, .int .i64 f, .int .i64 g]) (.int .i64 0)).run Tryz.prog w = .ok (.int .i64 a) w := by kernel_rfl
@[go_sem] theorem idx_seven1 (a b c d e f g : Int) (w : World) : (Instr.index 224 (.agg #[.int .i64 a, .int .i64 b, .int .i64 c, .int .i64 d, .int .i64 e, .int .i64 f, .int .i64 g]) (.int .i64 1)).run Tryz.prog w = .ok (.int .i64 b) w := by kernel_rfl
@[go_sem] theorem idx_seven2 (a b c d e f g : Int) (w : World) : (Instr.index 224 (.agg #[.int .i64 a, .int .i64 b, .int .i64 c, .int .i64 d, .int .i64 e, .int .i64 f, .int .i64 g]) (.int .i64 2)).run Tryz.prog w = .ok (.int .i64 c) w := by kernel_rfl
@[go_sem] theorem idx_seven3 (a b c d e f g : Int) (w : World) : (Instr.index 224 (.agg #[.int .i64 a, .int .i64 b, .int .i64 c, .int .i64 d, .int .i64 e, .int .i64 f, .int .i64 g]) (.int .i64 3)).run Tryz.prog w = .ok (.int .i64 d) w := by kernel_rfl
@[go_sem] theorem idx_seven4 (a b c d e f g : Int) (w : World) : (Instr.index 224 (.agg #[.int .i64 a, .int .i64 b, .int .i64 c, .int .i64 d, .int .i64 e, .int .i64 f, .int .i64 g]) (.int .i64 4)).run Tryz.prog w = .ok (.int .i64 e) w := by kernel_rfl
@[go_sem] theorem idx_seven5 (a b c d e f g : Int) (w : World) : (Instr.index 224 (.agg #[.int .i64 a, .int .i64 b, .int .i64 c, .int .i64 d, .int .i64 e, .int .i64 f, .int .i64 g]) (.int .i64 5)).run Tryz.prog w = .ok (.int .i64 f) w := by kernel_rfl
@[go_sem] theorem idx_seven6 (a b c d e f g : Int) (w : World) : (Instr.index 224 (.agg #[.int .i64 a, .int .i64 b, .int .i64 c, .int .i64 d, .int .i64 e, .int .i64 f, .int .i64 g]) (.int .i64 6)).run Tryz.prog w = .ok (.int .i64 g) w := by kernel_rfl
set_option maxHeartbeats 2000000 in
set_option maxRecDepth 100000 in
theorem elements_any (s : ByteArray) (w : World) (hs : s.size = 56) :
    Calls Tryz.prog 203 #[.string s] w fun e w' => e = .returned (.agg #[.int .i64 (onumS s 0), .int .i64 (onumS s 8), .int .i64 (onumS s 16), .int .i64 (onumS s 24), .int .i64 (onumS s 32), .int .i64 (onumS s 40), .int .i64 (onumS s 48)]) ∧ Below w.heap.size w w' := by
  have hmf : ∀ (fn : Fn) (first cap : Array Value) (W : World), (Instr.makeFunc fn first cap).run Tryz.prog W = .ok (.func fn first cap) W := fun _ _ _ _ => rfl
  have A := (Arr_at w w.heap.size [.string s] 9 rfl).alloc (.cells #[.int .i64 0, .int .i64 0, .int .i64 0, .int .i64 0, .int .i64 0, .int .i64 0, .int .i64 0] 28)
  have c0 := A.c 0 (of_decide_eq_true rfl)
  have C0 : Hid _ := c0
  clear A c0
  have h0 := fun W c => elAt_any 0 (by decide) s w.heap.size W hs c
  rw [show 8 * 0 = 0 from rfl] at h0
  generalize onumS s 0 = x0 at h0 ⊢
  have h1 := fun W c => elAt_any 1 (by decide) s w.heap.size W hs c
  rw [show 8 * 1 = 8 from rfl] at h1
  generalize onumS s 8 = x1 at h1 ⊢
  have h2 := fun W c => elAt_any 2 (by decide) s w.heap.size W hs c
  rw [show 8 * 2 = 16 from rfl] at h2
  generalize onumS s 16 = x2 at h2 ⊢
  have h3 := fun W c => elAt_any 3 (by decide) s w.heap.size W hs c
  rw [show 8 * 3 = 24 from rfl] at h3
  generalize onumS s 24 = x3 at h3 ⊢
  have h4 := fun W c => elAt_any 4 (by decide) s w.heap.size W hs c
  rw [show 8 * 4 = 32 from rfl] at h4
  generalize onumS s 32 = x4 at h4 ⊢
  have h5 := fun W c => elAt_any 5 (by decide) s w.heap.size W hs c
  rw [show 8 * 5 = 40 from rfl] at h5
  generalize onumS s 40 = x5 at h5 ⊢
  have h6 := fun W c => elAt_any 6 (by decide) s w.heap.size W hs c
  rw [show 8 * 6 = 48 from rfl] at h6
  generalize onumS s 48 = x6 at h6 ⊢
  go_enter Tryz.func203, Tryz.ntmps203
  go_wp2_with fail
  refine (h0 _ C0.out).mono ?_
  rintro e X ⟨rfl, rfl⟩
  go_wp2_with fail
  refine (h1 _ C0.out).mono ?_
  rintro e X ⟨rfl, rfl⟩
  go_wp2_with fail
  refine (h2 _ C0.out).mono ?_
  rintro e X ⟨rfl, rfl⟩
  go_wp2_with fail
  refine (h3 _ C0.out).mono ?_
  rintro e X ⟨rfl, rfl⟩
  go_wp2_with fail
  refine (h4 _ C0.out).mono ?_
  rintro e X ⟨rfl, rfl⟩
  go_wp2_with fail
  refine (h5 _ C0.out).mono ?_
  rintro e X ⟨rfl, rfl⟩
  go_wp2_with fail
  refine (h6 _ C0.out).mono ?_
  rintro e X ⟨rfl, rfl⟩
  go_wp2_with (with_reducible refine post_stop ?_)
  refine ⟨bodyPost_ret (v := .agg #[.int .i64 x0, .int .i64 x1, .int .i64 x2, .int .i64 x3, .int .i64 x4, .int .i64 x5, .int .i64 x6]) (by simp [results, Tryz.results203, asAddr, go_sem]) rfl ⟨rfl, ?_⟩⟩
  exact bel_al (bel_al (Below.refl _ _) _) _
end Go.Proofs.YtoadcnhcfodkgaaGreatDoor
