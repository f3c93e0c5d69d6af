/-
  That the laws of stage 17 are awake, walked, for the seat Ytchkedlfackfgaa. (Made by mktl.py.)
-/
import Derived.Test.YtchkedlfackfgaaTlEq
import Derived.Test.YtchkedlfackfgaaTlCounts
import Derived.Test.YtchkedlfackfgaaTlWrite
namespace Go.Proofs.Ytchkedlfackfgaa
open Go.RowKit

def tlA : Tl := ⟨0, 0, 0, 0, 0, 0, 0, 0, 0, 16384, 2000, 0, 0⟩
theorem aw_ok : tlOk tlA = true := by decide +kernel
theorem aw_c : tlC (0, 0, 0, 1099511627776) (219902325555, 0, 0) = ((0, 0, 0, 16384), (2000, 0, 0)) := by decide +kernel
theorem aw_w : tlW tlA = (32, strOf (tlL tlA)) := by
  unfold tlW
  rw [aw_ok, if_pos rfl]
set_option maxHeartbeats 2000000 in
set_option maxRecDepth 100000 in
theorem awake_any (w : World) : Calls Try.prog 6 #[] w fun e w' => e = .returned (.bool true) ∧ Below w.heap.size w w' := by
  have hc := tcounts_any (0, 0, 0, 1099511627776) (219902325555, 0, 0)
  rw [aw_c] at hc
  dsimp only at hc
  have hw := twrite_any tlA
  rw [aw_w, aw_ok] at hw
  have hsz : (strOf (tlL tlA)).size = 26 := by rw [size_strOf]; rfl
  generalize strOf (tlL tlA) = S at *
  unfold tlA at hw
  dsimp only at hw
  go_enter Try.func6, Try.ntmps6
  go_wp2_with fail
  refine (hc _).mono ?_
  rintro e w1 ⟨rfl, b1⟩
  go_wp2_with fail
  refine (hw _).mono ?_
  rintro e w2 ⟨rfl, b2⟩
  have L2 := bel_then (bel_al (bel_al b1 _) _) b2
  have A := ((Arr_at w1 w1.heap.size [.int .i64 0, .int .i64 0, .int .i64 0, .int .i64 16384] 22 rfl).alloc (.cells #[.int .i64 2000, .int .i64 0, .int .i64 0] 23)).below b2
  have D := (Arr_at (w1.alloc (.cells #[.int .i64 0, .int .i64 0, .int .i64 0, .int .i64 16384] 22)) (w1.heap.size + 1) [.int .i64 2000, .int .i64 0, .int .i64 0] 23 (by simp)).below b2
  have c3 : w2.cell? ⟨w1.heap.size, 3, none⟩ = some (.int .i64 16384) := A.c 3 (of_decide_eq_true rfl)
  have e0 : w2.cell? ⟨w1.heap.size + 1, 0, none⟩ = some (.int .i64 2000) := D.c 0 (of_decide_eq_true rfl)
  have az := A.lies
  have dz := D.lies
  go_wp2_with (with_reducible refine post_stop ?_)
  exact ⟨bodyPost_ret (v := .bool true) (by simp [results, Try.results6, go_sem]) rfl ⟨rfl, bel_al L2 _⟩⟩
end Go.Proofs.Ytchkedlfackfgaa
