/-
  An argument of type api.Orbit, opened and shut, for the seat Ytpceomcnknjiiaa.
-/
import Derived.Test.YtpceomcnknjiiaaRows
import Derived.WalkKit
import Derived.ProofKit
import Derived.OpenShut
import Derived.ChangeSame
import Derived.Laws.IdiomArrays
namespace Go.Proofs.Ytpceomcnknjiiaa
open Go.ChangeShapes Go.WideShapes Go.ChangeAt Go.RowKit

theorem orbit_cells : Try.prog.cellsOf 23 = 7 := by kernel_rfl
theorem int64_lone : Try.prog.cellsOf 2 = 1 := by kernel_rfl
theorem list7 {α : Type} (l : List α) (h : l.length = 7) : ∃ a b c d e f g, l = [a, b, c, d, e, f, g] := by
  match l, h with
  | [a, b, c, d, e, f, g], _ => exact ⟨a, b, c, d, e, f, g, rfl⟩
/-- The seven numbers of elements are of 64 bits. -/
structure Wf7 (a : Int × Int × Int × Int × Int × Int × Int) : Prop where
  w0 : (Lit.int .i64 a.1).wf = true
  w1 : (Lit.int .i64 a.2.1).wf = true
  w2 : (Lit.int .i64 a.2.2.1).wf = true
  w3 : (Lit.int .i64 a.2.2.2.1).wf = true
  w4 : (Lit.int .i64 a.2.2.2.2.1).wf = true
  w5 : (Lit.int .i64 a.2.2.2.2.2.1).wf = true
  w6 : (Lit.int .i64 a.2.2.2.2.2.2).wf = true
section
variable {H : Type} {enc : TypeId × Value → H} {w : World} {base : Nat} {spare : Nat → Bool} {held : Bool}
theorem open_orbit {r : Reach} {b0 : Nat} {v : Value} {d : DataW H} {ps : List MemPlace} (hval : Value.okWide Try.prog w r b0 23 v) (hd : DataW.Trod enc Try.prog w base spare held 23 v d ps) :
    ∃ a : Int × Int × Int × Int × Int × Int × Int, v = .agg #[.int .i64 a.1, .int .i64 a.2.1, .int .i64 a.2.2.1, .int .i64 a.2.2.2.1, .int .i64 a.2.2.2.2.1, .int .i64 a.2.2.2.2.2.1, .int .i64 a.2.2.2.2.2.2] ∧
      d = .agg [.lit (.int .i64 a.1), .lit (.int .i64 a.2.1), .lit (.int .i64 a.2.2.1), .lit (.int .i64 a.2.2.2.1), .lit (.int .i64 a.2.2.2.2.1), .lit (.int .i64 a.2.2.2.2.2.1), .lit (.int .i64 a.2.2.2.2.2.2)] ∧ ps = [] ∧ Wf7 a := by
  obtain ⟨cs, rfl, hsz, _⟩ : ∃ cs, v = .agg cs ∧ cs.size = Try.prog.cellsOf 23 ∧ Row.okWide Try.prog w r b0 23 cs := by
    simpa [Value.okWide, Try.underlying23] using hval
  rw [orbit_cells] at hsz
  obtain ⟨l⟩ := cs
  obtain ⟨c0, c1, c2, c3, c4, c5, c6, rfl⟩ := list7 l hsz
  obtain ⟨fuel, hf⟩ := hd
  obtain ⟨xs, n, _, hx, hl, hlen, hq⟩ := DataW.trod_struct Try.underlying23 hf
  obtain ⟨y0, y1, y2, y3, y4, y5, y6, rfl⟩ := list7 xs hlen
  have h0 := hq 0 _ rfl
  have h1 := hq 1 _ rfl
  have h2 := hq 2 _ rfl
  have h3 := hq 3 _ rfl
  have h4 := hq 4 _ rfl
  have h5 := hq 5 _ rfl
  have h6 := hq 6 _ rfl
  simp [int64_lone, Value.cells] at h0 h1 h2 h3 h4 h5 h6
  obtain ⟨x0, e0, rfl, w0⟩ := DataW.trod_int Try.underlying2 h0
  obtain ⟨x1, e1, rfl, w1⟩ := DataW.trod_int Try.underlying2 h1
  obtain ⟨x2, e2, rfl, w2⟩ := DataW.trod_int Try.underlying2 h2
  obtain ⟨x3, e3, rfl, w3⟩ := DataW.trod_int Try.underlying2 h3
  obtain ⟨x4, e4, rfl, w4⟩ := DataW.trod_int Try.underlying2 h4
  obtain ⟨x5, e5, rfl, w5⟩ := DataW.trod_int Try.underlying2 h5
  obtain ⟨x6, e6, rfl, w6⟩ := DataW.trod_int Try.underlying2 h6
  simp at e0 e1 e2 e3 e4 e5 e6
  subst e0 e1 e2 e3 e4 e5 e6
  simp only [Prod.mk.injEq] at hx
  obtain ⟨rfl, rfl⟩ := hx
  exact ⟨(x0, x1, x2, x3, x4, x5, x6), rfl, rfl, rfl, ⟨w0, w1, w2, w3, w4, w5, w6⟩⟩
theorem shut_orbit {a : Int × Int × Int × Int × Int × Int × Int} (W : Wf7 a) :
    DataW.Trod enc Try.prog w base spare held 23 (.agg #[.int .i64 a.1, .int .i64 a.2.1, .int .i64 a.2.2.1, .int .i64 a.2.2.2.1, .int .i64 a.2.2.2.2.1, .int .i64 a.2.2.2.2.2.1, .int .i64 a.2.2.2.2.2.2])
      (.agg [.lit (.int .i64 a.1), .lit (.int .i64 a.2.1), .lit (.int .i64 a.2.2.1), .lit (.int .i64 a.2.2.2.1), .lit (.int .i64 a.2.2.2.2.1), .lit (.int .i64 a.2.2.2.2.2.1), .lit (.int .i64 a.2.2.2.2.2.2)]) [] :=
  ⟨2, by simp [DataW.trod, Value.cells, Try.underlying23, Try.underlying2, orbit_cells, int64_lone, W.w0, W.w1, W.w2, W.w3, W.w4, W.w5, W.w6]⟩
end
end Go.Proofs.Ytpceomcnknjiiaa
