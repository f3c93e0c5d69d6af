/-
  An argument of type api.Quat, opened and shut, for the seat Ytchkedlfackfgaa.
-/
import Derived.Test.YtchkedlfackfgaaVRow
namespace Go.Proofs.Ytchkedlfackfgaa
open Go.ChangeShapes Go.WideShapes Go.ChangeAt Go.RowKit

set_option maxRecDepth 100000
theorem quat_cells : Try.prog.cellsOf 36 = 4 := by kernel_rfl
theorem list4 {α : Type} (l : List α) (h : (⟨l⟩ : Array α).size = 4) : ∃ a b c d, l = [a, b, c, d] := by
  match l, h with
  | [a, b, c, d], _ => exact ⟨a, b, c, d, rfl⟩
section
variable {H : Type} {enc : TypeId × Value → H} {w : World} {base : Nat} {spare : Nat → Bool} {held : Bool}
theorem open_quat {r : Reach} {b0 : Nat} {v : Value} {d : DataW H} {ps : List MemPlace} (hval : Value.okWide Try.prog w r b0 36 v) (hd : DataW.Trod enc Try.prog w base spare held 36 v d ps) :
    ∃ a : Int × Int × Int × Int, v = .agg #[.int .i64 a.1, .int .i64 a.2.1, .int .i64 a.2.2.1, .int .i64 a.2.2.2] ∧ d = .agg [.lit (.int .i64 a.1), .lit (.int .i64 a.2.1), .lit (.int .i64 a.2.2.1), .lit (.int .i64 a.2.2.2)] ∧ ps = [] ∧ (Lit.int .i64 a.1).wf = true ∧ (Lit.int .i64 a.2.1).wf = true ∧ (Lit.int .i64 a.2.2.1).wf = true ∧ (Lit.int .i64 a.2.2.2).wf = true := by
  obtain ⟨cs, rfl, hsz, _⟩ : ∃ cs, v = .agg cs ∧ cs.size = Try.prog.cellsOf 36 ∧ Row.okWide Try.prog w r b0 36 cs := by
    simpa [Value.okWide, Try.underlying36] using hval
  rw [quat_cells] at hsz
  obtain ⟨l⟩ := cs
  obtain ⟨c0, c1, c2, c3, rfl⟩ := list4 l hsz
  obtain ⟨fuel, hf⟩ := hd
  obtain ⟨y0, y1, y2, y3, m, hx, hy0, hy1, hy2, hy3⟩ := trod_array4 Try.underlying36 int64_cells hf
  obtain ⟨x0, e0, rfl, w0⟩ := DataW.trod_int Try.underlying2 hy0
  obtain ⟨x1, e1, rfl, w1⟩ := DataW.trod_int Try.underlying2 hy1
  obtain ⟨x2, e2, rfl, w2⟩ := DataW.trod_int Try.underlying2 hy2
  obtain ⟨x3, e3, rfl, w3⟩ := DataW.trod_int Try.underlying2 hy3
  simp at e0 e1 e2 e3
  subst e0 e1 e2 e3
  simp only [Prod.mk.injEq] at hx
  obtain ⟨rfl, rfl⟩ := hx
  exact ⟨(x0, x1, x2, x3), rfl, rfl, rfl, w0, w1, w2, w3⟩
theorem shut_quat {a : Int × Int × Int × Int} (w0 : (Lit.int .i64 a.1).wf = true) (w1 : (Lit.int .i64 a.2.1).wf = true) (w2 : (Lit.int .i64 a.2.2.1).wf = true) (w3 : (Lit.int .i64 a.2.2.2).wf = true) :
    DataW.Trod enc Try.prog w base spare held 36 (.agg #[.int .i64 a.1, .int .i64 a.2.1, .int .i64 a.2.2.1, .int .i64 a.2.2.2]) (.agg [.lit (.int .i64 a.1), .lit (.int .i64 a.2.1), .lit (.int .i64 a.2.2.1), .lit (.int .i64 a.2.2.2)]) [] :=
  ⟨2, by simp [DataW.trod, Value.cells, Try.underlying36, Try.underlying2, quat_cells, int64_cells, w0, w1, w2, w3, show List.range 4 = [0, 1, 2, 3] from rfl]⟩
end
end Go.Proofs.Ytchkedlfackfgaa
