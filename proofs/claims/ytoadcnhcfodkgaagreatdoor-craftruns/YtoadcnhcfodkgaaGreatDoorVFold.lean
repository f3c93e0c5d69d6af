/-
  At a loop's next round the world may be a letter, for the seat YtoadcnhcfodkgaaGreatDoor. No Go text in sight.
-/
import Derived.LoopN
namespace Go.Proofs.YtoadcnhcfodkgaaGreatDoor

theorem rounds_letter {P : Program} {c : Code} {Q : Exit → Act → World → Prop} {n : Nat} {a : Act} {w : World} {S : World → Prop} (hS : S w) (h : ∀ w', S w' → Code.rounds P c Q n a w') : Code.rounds P c Q n a w := h w hS
end Go.Proofs.YtoadcnhcfodkgaaGreatDoor
