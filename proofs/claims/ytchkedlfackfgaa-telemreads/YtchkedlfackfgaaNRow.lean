/-
  An argument of type api.Frame, opened and shut, for the seat Ytchkedlfackfgaa.
-/
import Derived.Test.YtchkedlfackfgaaRows
import Derived.WalkKit
import Derived.ProofKit
import Derived.OpenShut
import Derived.Lib.SmallJoins
namespace Go.Proofs.Ytchkedlfackfgaa
open Go.ChangeShapes Go.WideShapes Go.ChangeAt Go.RowKit Go.Joins

theorem frame_cells : Try.prog.cellsOf 28 = 2 := by kernel_rfl
section
variable {H : Type} {enc : TypeId × Value → H} {w : World} {base : Nat} {spare : Nat → Bool} {held : Bool}
theorem open_frame {r : Reach} {b0 : Nat} {v : Value} {d : DataW H} {ps : List MemPlace} (hval : Value.okWide Try.prog w r b0 28 v) (hd : DataW.Trod enc Try.prog w base spare held 28 v d ps) :
    ∃ a : Int × ByteArray, v = .agg #[.int .i64 a.1, .string a.2] ∧ d = .agg [.lit (.int .i64 a.1), .lit (.string a.2.data.toList)] ∧ ps = [] ∧ (Lit.int .i64 a.1).wf = true ∧ a.2.size ≤ maxLen := by
  obtain ⟨c0, c1, y0, y1, m, rfl, rfl, rfl, hy0, hy1⟩ := open_agg2 Try.underlying28 (by kernel_rfl) frame_cells hval hd
  obtain ⟨x0, e0, rfl, w0⟩ := DataW.trod_int Try.underlying3 hy0
  obtain ⟨x1, e1, rfl, w1⟩ := DataW.trod_string Try.underlying9 hy1
  simp at e0 e1
  subst e0 e1
  exact ⟨(x0, x1), rfl, rfl, rfl, w0, w1⟩
theorem shut_frame {a : Int × ByteArray} (w0 : (Lit.int .i64 a.1).wf = true) (w1 : a.2.size ≤ maxLen) :
    DataW.Trod enc Try.prog w base spare held 28 (.agg #[.int .i64 a.1, .string a.2]) (.agg [.lit (.int .i64 a.1), .lit (.string a.2.data.toList)]) [] :=
  shut_agg2 (y0 := (.lit (.int .i64 a.1), [])) (y1 := (.lit (.string a.2.data.toList), [])) Try.underlying28 (by kernel_rfl) frame_cells ⟨1, by simp [DataW.trod, Try.underlying3, w0]⟩ ⟨1, by simp [DataW.trod, Try.underlying9, w1]⟩
end
end Go.Proofs.Ytchkedlfackfgaa
