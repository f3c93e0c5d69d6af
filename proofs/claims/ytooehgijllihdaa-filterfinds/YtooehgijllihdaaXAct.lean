/- A part. -/
import Derived.Test.YtooehgijllihdaaJC
namespace Go.Proofs.Ytooehgijllihdaa
open Go.RowKit
def zS (a : Act) (n : Nat) : Nat → Value := fun i => (a.tmps.toList.drop n).getD i undef
theorem give_act {J : Act → World → Prop} {a : Act} {W : World} (h : ∀ a', a' = a → J a' W) : J a W := h a rfl
end Go.Proofs.Ytooehgijllihdaa
