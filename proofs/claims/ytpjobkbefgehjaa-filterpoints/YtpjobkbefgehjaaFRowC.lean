/-
  Rows that are the same place by place, for the seat Ytpjobkbefgehjaa.
-/
import Derived.Test.YtpjobkbefgehjaaJC
namespace Go.Proofs.Ytpjobkbefgehjaa
open Go.RowKit

theorem row_congr {N : Nat} {f g : Nat → Int} (h : ∀ i, i < N → f i = g i) : row N f = row N g := by
  unfold row
  refine List.map_congr_left (fun i hi => ?_)
  rw [h i (List.mem_range.1 hi)]
end Go.Proofs.Ytpjobkbefgehjaa
