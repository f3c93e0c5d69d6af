/-
  The law FieldThere, at all places and ticks, for the seat YtmhcfkcpoecokaaDoor.
-/
import Derived.Test.YtmhcfkcpoecokaaDoorWThereA
import Derived.Test.YtmhcfkcpoecokaaDoorJH
namespace Go.Proofs.YtmhcfkcpoecokaaDoor
open Go.RowKit

theorem FieldThere_any (p : V3) (t : Int) (w : World) (hG0 : Arr 0 (row 54 at0) w) (hG1 : Arr 1 (row 10 yr0) w) :
    Calls Tryd.prog 6 #[.agg #[.int .i64 p.1, .int .i64 p.2.1, .int .i64 p.2.2], .int .i64 t] w fun e w' => e = .returned (.bool true) ∧ Below w.heap.size w w' := by
  have e : vNormS false p = ((earR p).1, (earR p).2) := rfl
  cases g : (earR p).2 with
  | true => rw [g] at e; exact FieldThere_a p t w hG0 hG1 _ e
  | false =>
    rw [g] at e
    by_cases c1 : (earR p).1 < 7012835795048
    · exact FieldThere_b p t w hG0 hG1 _ e c1
    by_cases c2 : (earR p).1 > 9211859050600
    · exact FieldThere_c p t w hG0 hG1 _ e c1 c2
    by_cases c3 : t < 0
    · exact FieldThere_d p t w hG0 hG1 _ e c1 c2 c3
    by_cases c4 : t > 157766400000
    · exact FieldThere_e p t w hG0 hG1 _ e c1 c2 c3 c4
    · obtain ⟨x, y, z, n, h1, h2, h3, h4⟩ := there_at (p := p) (t := t) (r := (earR p).1) (Prod.ext rfl g) (by omega) (by omega) (by omega) (by omega)
      exact FieldThere_in p t w hG0 hG1 _ e c1 c2 c3 c4 x y z n h1 h2 h3 h4
end Go.Proofs.YtmhcfkcpoecokaaDoor
