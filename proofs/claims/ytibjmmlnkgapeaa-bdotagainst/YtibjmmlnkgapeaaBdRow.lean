/-
  An argument of type api.Drift, opened and shut, for the seat Ytibjmmlnkgapeaa.
-/
import Derived.Test.YtibjmmlnkgapeaaRows
import Derived.Test.YtibjmmlnkgapeaaVRow
import Derived.Test.YtibjmmlnkgapeaaBdSpec
import Derived.WalkKit
import Derived.ProofKit
import Derived.OpenShut
import Derived.ChangeSame
import Derived.Laws.IdiomArrays
namespace Go.Proofs.Ytibjmmlnkgapeaa
open Go.ChangeShapes Go.WideShapes Go.ChangeAt Go.RowKit

theorem drift_cells : Try.prog.cellsOf 25 = 8 := by kernel_rfl
theorem bool_cells : Try.prog.cellsOf 4 = 1 := by kernel_rfl
theorem list8 {α : Type} (l : List α) (h : l.length = 8) : ∃ a b c d e f g i, l = [a, b, c, d, e, f, g, i] := by
  match l, h with
  | [a, b, c, d, e, f, g, i], _ => exact ⟨a, b, c, d, e, f, g, i, rfl⟩
theorem list4d {α : Type} (l : List α) (h : l.length = 4) : ∃ a b c d, l = [a, b, c, d] := by
  match l, h with
  | [a, b, c, d], _ => exact ⟨a, b, c, d, rfl⟩
/-- The seven numbers of a Drift are of 64 bits. -/
structure WfD (a : Dr) : Prop where
  w1 : (Lit.int .i64 a.2.1).wf = true
  w2 : (Lit.int .i64 a.2.2.1).wf = true
  w3 : (Lit.int .i64 a.2.2.2.1).wf = true
  w4 : (Lit.int .i64 a.2.2.2.2.1).wf = true
  w5 : (Lit.int .i64 a.2.2.2.2.2.1).wf = true
  w6 : (Lit.int .i64 a.2.2.2.2.2.2.1).wf = true
  w7 : (Lit.int .i64 a.2.2.2.2.2.2.2).wf = true
section
variable {H : Type} {enc : TypeId × Value → H} {w : World} {base : Nat} {spare : Nat → Bool} {held : Bool}
def driftD (H : Type) (a : Dr) : DataW H := .agg [.lit (.bool a.1), .lit (.int .i64 a.2.1), .agg [.lit (.int .i64 a.2.2.1), .lit (.int .i64 a.2.2.2.1), .lit (.int .i64 a.2.2.2.2.1)], .agg [.lit (.int .i64 a.2.2.2.2.2.1), .lit (.int .i64 a.2.2.2.2.2.2.1), .lit (.int .i64 a.2.2.2.2.2.2.2)]]
theorem open_drift {r : Reach} {b0 : Nat} {v : Value} {d : DataW H} {ps : List MemPlace} (hval : Value.okWide Try.prog w r b0 25 v) (hd : DataW.Trod enc Try.prog w base spare held 25 v d ps) :
    ∃ a : Dr, v = .agg #[.bool a.1, .int .i64 a.2.1, .int .i64 a.2.2.1, .int .i64 a.2.2.2.1, .int .i64 a.2.2.2.2.1, .int .i64 a.2.2.2.2.2.1, .int .i64 a.2.2.2.2.2.2.1, .int .i64 a.2.2.2.2.2.2.2] ∧
      d = driftD H a ∧ ps = [] ∧ WfD a := by
  obtain ⟨cs, rfl, hsz, _⟩ : ∃ cs, v = .agg cs ∧ cs.size = Try.prog.cellsOf 25 ∧ Row.okWide Try.prog w r b0 25 cs := by
    simpa [Value.okWide, Try.underlying25] using hval
  rw [drift_cells] at hsz
  obtain ⟨l⟩ := cs
  obtain ⟨c0, c1, c2, c3, c4, c5, c6, c7, rfl⟩ := list8 l hsz
  obtain ⟨fuel, hf⟩ := hd
  obtain ⟨xs, n, _, hx, hl, hlen, hq⟩ := DataW.trod_struct Try.underlying25 hf
  obtain ⟨y0, y1, y2, y3, rfl⟩ := list4d xs hlen
  have h0 := hq 0 _ rfl
  have h1 := hq 1 _ rfl
  have h2 := hq 2 _ rfl
  have h3 := hq 3 _ rfl
  simp [int64_cells, bool_cells, vec_cells, Value.cells] at h0 h1 h2 h3
  obtain ⟨x0, e0, rfl⟩ := DataW.trod_bool Try.underlying4 h0
  obtain ⟨x1, e1, rfl, w1⟩ := DataW.trod_int Try.underlying2 h1
  obtain ⟨z2, z3, z4, m, rfl, g2, g3, g4⟩ := trod_array3 Try.underlying23 int64_cells h2
  obtain ⟨z5, z6, z7, m', rfl, g5, g6, g7⟩ := trod_array3 Try.underlying23 int64_cells h3
  obtain ⟨x2, e2, rfl, w2⟩ := DataW.trod_int Try.underlying2 g2
  obtain ⟨x3, e3, rfl, w3⟩ := DataW.trod_int Try.underlying2 g3
  obtain ⟨x4, e4, rfl, w4⟩ := DataW.trod_int Try.underlying2 g4
  obtain ⟨x5, e5, rfl, w5⟩ := DataW.trod_int Try.underlying2 g5
  obtain ⟨x6, e6, rfl, w6⟩ := DataW.trod_int Try.underlying2 g6
  obtain ⟨x7, e7, rfl, w7⟩ := DataW.trod_int Try.underlying2 g7
  simp at e0 e1 e2 e3 e4 e5 e6 e7
  subst e0 e1 e2 e3 e4 e5 e6 e7
  simp only [Prod.mk.injEq] at hx
  obtain ⟨rfl, rfl⟩ := hx
  exact ⟨(x0, x1, x2, x3, x4, x5, x6, x7), rfl, rfl, rfl, ⟨w1, w2, w3, w4, w5, w6, w7⟩⟩
theorem shut_drift {a : Dr} (W : WfD a) :
    DataW.Trod enc Try.prog w base spare held 25 (.agg #[.bool a.1, .int .i64 a.2.1, .int .i64 a.2.2.1, .int .i64 a.2.2.2.1, .int .i64 a.2.2.2.2.1, .int .i64 a.2.2.2.2.2.1, .int .i64 a.2.2.2.2.2.2.1, .int .i64 a.2.2.2.2.2.2.2]) (driftD H a) [] :=
  ⟨3, by simp [DataW.trod, driftD, Value.cells, Try.underlying25, Try.underlying23, Try.underlying4, Try.underlying2, drift_cells, vec_cells, bool_cells, int64_cells, W.w1, W.w2, W.w3, W.w4, W.w5, W.w6, W.w7, show List.range 3 = [0, 1, 2] from rfl]⟩
end
end Go.Proofs.Ytibjmmlnkgapeaa
