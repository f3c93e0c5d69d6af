/-
  An argument of type [6]int, opened and shut, for the seat Ytoaghmbaijlklaa.
-/
import Derived.Test.YtoaghmbaijlklaaRows
import Derived.Test.YtoaghmbaijlklaaVLoop
import Derived.WalkKit
import Derived.ProofKit
import Derived.OpenShut
import Derived.Laws.IdiomArrays
namespace Go.Proofs.Ytoaghmbaijlklaa
open Go.ChangeShapes Go.WideShapes Go.ChangeAt Go.RowKit

theorem ints6_cells : Try.prog.cellsOf 32 = 6 := by kernel_rfl
theorem int_one : Try.prog.cellsOf 3 = 1 := by kernel_rfl
theorem list6i {α : Type} (l : List α) (h : l.length = 6) : ∃ a b c d e f, l = [a, b, c, d, e, f] := by
  match l, h with
  | [a, b, c, d, e, f], _ => exact ⟨a, b, c, d, e, f, rfl⟩
theorem range6i : List.range 6 = [0, 1, 2, 3, 4, 5] := rfl
/-- Numbers of 64 bits. -/
def Wfs (N : Nat) (f : Nat → Int) : Prop := ∀ i, i < N → (Lit.int .i64 (f i)).wf = true
section
variable {H : Type} {enc : TypeId × Value → H} {w : World} {base : Nat} {spare : Nat → Bool} {held : Bool}
def ints6D (H : Type) (f : Nat → Int) : DataW H := .agg [.lit (.int .i64 (f 0)), .lit (.int .i64 (f 1)), .lit (.int .i64 (f 2)), .lit (.int .i64 (f 3)), .lit (.int .i64 (f 4)), .lit (.int .i64 (f 5))]
theorem trod_ints6 {fuel : Nat} {l : List Value} {x : DataW H × List MemPlace} (h : DataW.trod enc Try.prog w base spare held fuel 32 l = some x) (hl : l.length = 6) : ∃ f : Nat → Int, l = row 6 f ∧ x = (ints6D H f, []) ∧ Wfs 6 f := by
  obtain ⟨c0, c1, c2, c3, c4, c5, rfl⟩ := list6i l hl
  cases fuel with
  | zero => simp [DataW.trod] at h
  | succ n =>
    unfold DataW.trod at h
    rw [Try.underlying32] at h
    simp [range6i, int_one] at h
    obtain ⟨_, h⟩ := h
    cases h0 : DataW.trod enc Try.prog w base spare held n 3 [c0] with
    | none => simp [h0] at h
    | some y0 =>
      cases h1 : DataW.trod enc Try.prog w base spare held n 3 [c1] with
      | none => simp [h0, h1] at h
      | some y1 =>
        cases h2 : DataW.trod enc Try.prog w base spare held n 3 [c2] with
        | none => simp [h0, h1, h2] at h
        | some y2 =>
          cases h3 : DataW.trod enc Try.prog w base spare held n 3 [c3] with
          | none => simp [h0, h1, h2, h3] at h
          | some y3 =>
            cases h4 : DataW.trod enc Try.prog w base spare held n 3 [c4] with
            | none => simp [h0, h1, h2, h3, h4] at h
            | some y4 =>
              cases h5 : DataW.trod enc Try.prog w base spare held n 3 [c5] with
              | none => simp [h0, h1, h2, h3, h4, h5] at h
              | some y5 =>
                simp [h0, h1, h2, h3, h4, h5] at h
                obtain ⟨x0, e0, rfl, w0⟩ := DataW.trod_int Try.underlying3 h0
                obtain ⟨x1, e1, rfl, w1⟩ := DataW.trod_int Try.underlying3 h1
                obtain ⟨x2, e2, rfl, w2⟩ := DataW.trod_int Try.underlying3 h2
                obtain ⟨x3, e3, rfl, w3⟩ := DataW.trod_int Try.underlying3 h3
                obtain ⟨x4, e4, rfl, w4⟩ := DataW.trod_int Try.underlying3 h4
                obtain ⟨x5, e5, rfl, w5⟩ := DataW.trod_int Try.underlying3 h5
                simp at e0 e1 e2 e3 e4 e5
                subst e0 e1 e2 e3 e4 e5
                refine ⟨fun i => [x0, x1, x2, x3, x4, x5].getD i 0, rfl, ?_, fun i hi => ?_⟩
                · rw [← h]; rfl
                · match i, hi with
                  | 0, _ => exact w0
                  | 1, _ => exact w1
                  | 2, _ => exact w2
                  | 3, _ => exact w3
                  | 4, _ => exact w4
                  | 5, _ => exact w5
theorem shut_ints6_f {f : Nat → Int} (W : Wfs 6 f) (n : Nat) : DataW.trod enc Try.prog w base spare held (n + 2) 32 (row 6 f) = some (ints6D H f, []) := by
  have w0 := W 0 (by decide); have w1 := W 1 (by decide); have w2 := W 2 (by decide); have w3 := W 3 (by decide); have w4 := W 4 (by decide); have w5 := W 5 (by decide)
  rw [show row 6 f = [.int .i64 (f 0), .int .i64 (f 1), .int .i64 (f 2), .int .i64 (f 3), .int .i64 (f 4), .int .i64 (f 5)] from rfl]
  simp [DataW.trod, ints6D, Try.underlying32, Try.underlying3, ints6_cells, int_one, w0, w1, w2, w3, w4, w5, range6i]
theorem shut_ints6 {f : Nat → Int} (W : Wfs 6 f) : DataW.Trod enc Try.prog w base spare held 32 (.agg (row 6 f).toArray) (ints6D H f) [] := ⟨2, by simpa [Value.cells] using shut_ints6_f (enc := enc) (w := w) (base := base) (spare := spare) (held := held) W 0⟩
theorem open_ints6 {r : Reach} {b0 : Nat} {v : Value} {d : DataW H} {ps : List MemPlace} (hval : Value.okWide Try.prog w r b0 32 v) (hd : DataW.Trod enc Try.prog w base spare held 32 v d ps) :
    ∃ f : Nat → Int, v = .agg (row 6 f).toArray ∧ d = ints6D H f ∧ ps = [] ∧ Wfs 6 f := by
  obtain ⟨cs, rfl, hsz, _⟩ : ∃ cs, v = .agg cs ∧ cs.size = Try.prog.cellsOf 32 ∧ Row.okWide Try.prog w r b0 32 cs := by
    simpa [Value.okWide, Try.underlying32] using hval
  rw [ints6_cells] at hsz
  obtain ⟨l⟩ := cs
  obtain ⟨fuel, hf⟩ := hd
  obtain ⟨f, e, hx, W⟩ := trod_ints6 hf hsz
  simp only [Prod.mk.injEq] at hx
  obtain ⟨rfl, rfl⟩ := hx
  refine ⟨f, ?_, rfl, rfl, W⟩
  rw [show l = row 6 f from e]
end
end Go.Proofs.Ytoaghmbaijlklaa
