/-
  Thirteen rows are equal to themselves, for the seat Ytpjobkbefgehjaa.
-/
import Derived.Test.YtpjobkbefgehjaaJE
import Derived.Test.YtpjobkbefgehjaaJC
import Derived.ChangeKeysEq
namespace Go.Proofs.Ytpjobkbefgehjaa
open Go.RowKit

theorem part_rows (f : Nat → Int) (k : Nat) (w : World) (h : k < 13) : (part 27 (row 78 f).toArray (k * 6)).run Try.prog w = .ok (.agg (row 6 fun x_ => f (k * 6 + x_)).toArray) w := by
  have hk : k = 0 ∨ k = 1 ∨ k = 2 ∨ k = 3 ∨ k = 4 ∨ k = 5 ∨ k = 6 ∨ k = 7 ∨ k = 8 ∨ k = 9 ∨ k = 10 ∨ k = 11 ∨ k = 12 := by omega
  rcases hk with rfl | rfl | rfl | rfl | rfl | rfl | rfl | rfl | rfl | rfl | rfl | rfl | rfl <;> (show _ = _; kernel_rfl)
theorem items_rows (d : Nat) (f : Nat → Int) (w : World) : ∀ is : List Nat, (∀ i ∈ is, i < 13) → (Op.eqItems (d + 2) 27 6 (row 78 f).toArray (row 78 f).toArray is).run Try.prog w = .ok true w
  | [], _ => by simp [Op.eqItems]
  | i :: is, h => by
    have p := part_rows f i w (h i (by simp))
    have e : (Op.equalIn (d + 2) 27 (.agg (row 6 fun x_ => f (i * 6 + x_)).toArray) (.agg (row 6 fun x_ => f (i * 6 + x_)).toArray)).run Try.prog w = .ok true w := eqRow_d d _ _ _ _ _ _ w
    simp only [Op.eqItems, Sem.run_bind, p, Result.andThen_ok, e]
    simpa using items_rows d f w is (fun j hj => h j (by simp [hj]))
@[go_sem] theorem eqRows_same (f : Nat → Int) (w : World) : (Op.equalIn 10000 39 (.agg (row 78 f).toArray) (.agg (row 78 f).toArray)).run Try.prog w = .ok true w := by
  have hs : (Try.prog.info? 27).isSome = true := by kernel_rfl
  obtain ⟨i, hi⟩ := Option.isSome_iff_exists.1 hs
  have c : Try.prog.cellsOf 27 = 6 := by kernel_rfl
  rw [show (10000 : Nat) = 9999 + 1 from rfl, run_equalIn_array w 9999 _ _ Try.underlying39 hi, c]
  exact items_rows 9997 f w _ (fun i hi => List.mem_range.1 hi)
end Go.Proofs.Ytpjobkbefgehjaa
