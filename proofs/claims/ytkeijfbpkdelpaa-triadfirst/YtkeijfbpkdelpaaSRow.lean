/-
  An argument of type [2]api.Vec, opened and shut, for the seat Ytkeijfbpkdelpaa.
-/
import Derived.Test.YtkeijfbpkdelpaaVRow
namespace Go.Proofs.Ytkeijfbpkdelpaa
open Go.ChangeShapes Go.WideShapes Go.ChangeAt Go.RowKit

theorem vecs2_cells : Try.prog.cellsOf 33 = 6 := by kernel_rfl
theorem list6 {α : Type} (l : List α) (h : (⟨l⟩ : Array α).size = 6) : ∃ a b c d e f, l = [a, b, c, d, e, f] := by
  match l, h with
  | [a, b, c, d, e, f], _ => exact ⟨a, b, c, d, e, f, rfl⟩
section
variable {H : Type} {enc : TypeId × Value → H} {w : World} {base : Nat} {spare : Nat → Bool} {held : Bool}
theorem trod_vecs2 {fuel : Nat} {c0 c1 c2 c3 c4 c5 : Value} {x : DataW H × List MemPlace}
    (h : DataW.trod enc Try.prog w base spare held fuel 33 [c0, c1, c2, c3, c4, c5] = some x) :
    ∃ y0 y1 n, x = (.agg [y0.1, y1.1], y0.2 ++ y1.2) ∧ DataW.trod enc Try.prog w base spare held n 23 [c0, c1, c2] = some y0 ∧ DataW.trod enc Try.prog w base spare held n 23 [c3, c4, c5] = some y1 := by
  cases fuel with
  | zero => simp [DataW.trod] at h
  | succ n =>
    unfold DataW.trod at h
    rw [Try.underlying33] at h
    have r2 : List.range 2 = [0, 1] := rfl
    simp [r2, vec_cells] at h
    obtain ⟨_, h⟩ := h
    cases h0 : DataW.trod enc Try.prog w base spare held n 23 [c0, c1, c2] with
    | none => simp [h0] at h
    | some y0 =>
      cases h1 : DataW.trod enc Try.prog w base spare held n 23 [c3, c4, c5] with
      | none => simp [h0, h1] at h
      | some y1 =>
        simp [h0, h1] at h
        exact ⟨y0, y1, n, h.symm, h0, h1⟩
theorem trod_vec {fuel : Nat} {c0 c1 c2 : Value} {x : DataW H × List MemPlace} (h : DataW.trod enc Try.prog w base spare held fuel 23 [c0, c1, c2] = some x) :
    ∃ x0 x1 x2 : Int, c0 = .int .i64 x0 ∧ c1 = .int .i64 x1 ∧ c2 = .int .i64 x2 ∧ x = (.agg [.lit (.int .i64 x0), .lit (.int .i64 x1), .lit (.int .i64 x2)], []) ∧ (Lit.int .i64 x0).wf = true ∧ (Lit.int .i64 x1).wf = true ∧ (Lit.int .i64 x2).wf = true := by
  obtain ⟨y0, y1, y2, m, hx, hy0, hy1, hy2⟩ := trod_array3 Try.underlying23 int64_cells h
  obtain ⟨x0, e0, rfl, w0⟩ := DataW.trod_int Try.underlying2 hy0
  obtain ⟨x1, e1, rfl, w1⟩ := DataW.trod_int Try.underlying2 hy1
  obtain ⟨x2, e2, rfl, w2⟩ := DataW.trod_int Try.underlying2 hy2
  simp at e0 e1 e2
  subst e0 e1 e2
  exact ⟨x0, x1, x2, rfl, rfl, rfl, hx, w0, w1, w2⟩
/-- The six numbers of two directions are of 64 bits. -/
structure Wf6 (a : Int × Int × Int × Int × Int × Int) : Prop where
  w0 : (Lit.int .i64 a.1).wf = true
  w1 : (Lit.int .i64 a.2.1).wf = true
  w2 : (Lit.int .i64 a.2.2.1).wf = true
  w3 : (Lit.int .i64 a.2.2.2.1).wf = true
  w4 : (Lit.int .i64 a.2.2.2.2.1).wf = true
  w5 : (Lit.int .i64 a.2.2.2.2.2).wf = true
theorem open_vecs2 {r : Reach} {b0 : Nat} {v : Value} {d : DataW H} {ps : List MemPlace} (hval : Value.okWide Try.prog w r b0 33 v) (hd : DataW.Trod enc Try.prog w base spare held 33 v d ps) :
    ∃ a : Int × Int × Int × Int × Int × Int, v = .agg #[.int .i64 a.1, .int .i64 a.2.1, .int .i64 a.2.2.1, .int .i64 a.2.2.2.1, .int .i64 a.2.2.2.2.1, .int .i64 a.2.2.2.2.2] ∧ d = .agg [.agg [.lit (.int .i64 a.1), .lit (.int .i64 a.2.1), .lit (.int .i64 a.2.2.1)], .agg [.lit (.int .i64 a.2.2.2.1), .lit (.int .i64 a.2.2.2.2.1), .lit (.int .i64 a.2.2.2.2.2)]] ∧ ps = [] ∧ Wf6 a := by
  obtain ⟨cs, rfl, hsz, _⟩ : ∃ cs, v = .agg cs ∧ cs.size = Try.prog.cellsOf 33 ∧ Row.okWide Try.prog w r b0 33 cs := by
    simpa [Value.okWide, Try.underlying33] using hval
  rw [vecs2_cells] at hsz
  obtain ⟨l⟩ := cs
  obtain ⟨c0, c1, c2, c3, c4, c5, rfl⟩ := list6 l hsz
  obtain ⟨fuel, hf⟩ := hd
  obtain ⟨y0, y1, m, hx, hy0, hy1⟩ := trod_vecs2 hf
  obtain ⟨x0, x1, x2, rfl, rfl, rfl, rfl, w0, w1, w2⟩ := trod_vec hy0
  obtain ⟨x3, x4, x5, rfl, rfl, rfl, rfl, w3, w4, w5⟩ := trod_vec hy1
  simp only [Prod.mk.injEq] at hx
  obtain ⟨rfl, rfl⟩ := hx
  exact ⟨(x0, x1, x2, x3, x4, x5), rfl, rfl, rfl, ⟨w0, w1, w2, w3, w4, w5⟩⟩
theorem shut_vecs2 {a : Int × Int × Int × Int × Int × Int} (W : Wf6 a) :
    DataW.Trod enc Try.prog w base spare held 33 (.agg #[.int .i64 a.1, .int .i64 a.2.1, .int .i64 a.2.2.1, .int .i64 a.2.2.2.1, .int .i64 a.2.2.2.2.1, .int .i64 a.2.2.2.2.2]) (.agg [.agg [.lit (.int .i64 a.1), .lit (.int .i64 a.2.1), .lit (.int .i64 a.2.2.1)], .agg [.lit (.int .i64 a.2.2.2.1), .lit (.int .i64 a.2.2.2.2.1), .lit (.int .i64 a.2.2.2.2.2)]]) [] :=
  ⟨3, by simp [DataW.trod, Value.cells, Try.underlying33, Try.underlying23, Try.underlying2, vecs2_cells, vec_cells, int64_cells, W.w0, W.w1, W.w2, W.w3, W.w4, W.w5, show List.range 3 = [0, 1, 2] from rfl, show List.range 2 = [0, 1] from rfl]⟩
end
end Go.Proofs.Ytkeijfbpkdelpaa
