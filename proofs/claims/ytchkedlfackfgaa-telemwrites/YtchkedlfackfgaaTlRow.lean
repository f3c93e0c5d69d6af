/-
  An argument of type api.Tell, opened and shut, for the seat Ytchkedlfackfgaa. (Made by mktl.py.)
-/
import Derived.Test.YtchkedlfackfgaaRows
import Derived.Test.YtchkedlfackfgaaTlM
import Derived.WalkKit
import Derived.ProofKit
import Derived.OpenShut
import Derived.ChangeSame
import Derived.Laws.IdiomArrays
namespace Go.Proofs.Ytchkedlfackfgaa
open Go.ChangeShapes Go.WideShapes Go.ChangeAt Go.RowKit

set_option maxRecDepth 100000
theorem tell_cells : Try.prog.cellsOf 25 = 13 := by kernel_rfl
theorem tint_one : Try.prog.cellsOf 3 = 1 := by kernel_rfl
theorem tint64_one : Try.prog.cellsOf 2 = 1 := by kernel_rfl
theorem tq4_cells : Try.prog.cellsOf 22 = 4 := by kernel_rfl
theorem td3_cells : Try.prog.cellsOf 23 = 3 := by kernel_rfl
theorem list13t {α : Type} (l : List α) (h : l.length = 13) : ∃ x0 x1 x2 x3 x4 x5 x6 x7 x8 x9 x10 x11 x12, l = [x0, x1, x2, x3, x4, x5, x6, x7, x8, x9, x10, x11, x12] := by
  match l, h with
  | [x0, x1, x2, x3, x4, x5, x6, x7, x8, x9, x10, x11, x12], _ => exact ⟨x0, x1, x2, x3, x4, x5, x6, x7, x8, x9, x10, x11, x12, rfl⟩
theorem list8t {α : Type} (l : List α) (h : l.length = 8) : ∃ a b c d e f g i, l = [a, b, c, d, e, f, g, i] := by
  match l, h with
  | [a, b, c, d, e, f, g, i], _ => exact ⟨a, b, c, d, e, f, g, i, rfl⟩
structure WfT (T : Tl) : Prop where
  t : (Lit.int .i64 T.t).wf = true
  m : (Lit.int .i64 T.m).wf = true
  fa : (Lit.int .i64 T.fa).wf = true
  ak : (Lit.int .i64 T.ak).wf = true
  er : (Lit.int .i64 T.er).wf = true
  rj : (Lit.int .i64 T.rj).wf = true
  q0 : (Lit.int .i64 T.q0).wf = true
  q1 : (Lit.int .i64 T.q1).wf = true
  q2 : (Lit.int .i64 T.q2).wf = true
  q3 : (Lit.int .i64 T.q3).wf = true
  d0 : (Lit.int .i64 T.d0).wf = true
  d1 : (Lit.int .i64 T.d1).wf = true
  d2 : (Lit.int .i64 T.d2).wf = true
section
variable {H : Type} {enc : TypeId × Value → H} {w : World} {base : Nat} {spare : Nat → Bool} {held : Bool}
def tellD (H : Type) (T : Tl) : DataW H := .agg [.lit (.int .i64 T.t), .lit (.int .i64 T.m), .lit (.int .i64 T.fa), .lit (.int .i64 T.ak), .lit (.int .i64 T.er), .lit (.int .i64 T.rj), .agg [.lit (.int .i64 T.q0), .lit (.int .i64 T.q1), .lit (.int .i64 T.q2), .lit (.int .i64 T.q3)], .agg [.lit (.int .i64 T.d0), .lit (.int .i64 T.d1), .lit (.int .i64 T.d2)]]
theorem open_tell {r : Reach} {b0 : Nat} {v : Value} {d : DataW H} {ps : List MemPlace} (hval : Value.okWide Try.prog w r b0 25 v) (hd : DataW.Trod enc Try.prog w base spare held 25 v d ps) :
    ∃ T : Tl, v = .agg #[.int .i64 T.t, .int .i64 T.m, .int .i64 T.fa, .int .i64 T.ak, .int .i64 T.er, .int .i64 T.rj, .int .i64 T.q0, .int .i64 T.q1, .int .i64 T.q2, .int .i64 T.q3, .int .i64 T.d0, .int .i64 T.d1, .int .i64 T.d2] ∧ d = tellD H T ∧ ps = [] ∧ WfT T := by
  obtain ⟨cs, rfl, hsz, _⟩ : ∃ cs, v = .agg cs ∧ cs.size = Try.prog.cellsOf 25 ∧ Row.okWide Try.prog w r b0 25 cs := by
    simpa [Value.okWide, Try.underlying25] using hval
  rw [tell_cells] at hsz
  obtain ⟨l⟩ := cs
  obtain ⟨c0, c1, c2, c3, c4, c5, c6, c7, c8, c9, c10, c11, c12, rfl⟩ := list13t l hsz
  obtain ⟨fuel, hf⟩ := hd
  obtain ⟨xs, n, _, hx, hl, hlen, hq⟩ := DataW.trod_struct Try.underlying25 hf
  obtain ⟨y0, y1, y2, y3, y4, y5, y6, y7, rfl⟩ := list8t xs hlen
  have h0 := hq 0 _ rfl
  have h1 := hq 1 _ rfl
  have h2 := hq 2 _ rfl
  have h3 := hq 3 _ rfl
  have h4 := hq 4 _ rfl
  have h5 := hq 5 _ rfl
  have h6 := hq 6 _ rfl
  have h7 := hq 7 _ rfl
  simp [tint64_one, tint_one, tq4_cells, td3_cells, Value.cells] at h0 h1 h2 h3 h4 h5 h6 h7
  obtain ⟨x0, e0, rfl, w0⟩ := DataW.trod_int Try.underlying2 h0
  obtain ⟨x1, e1, rfl, w1⟩ := DataW.trod_int Try.underlying3 h1
  obtain ⟨x2, e2, rfl, w2⟩ := DataW.trod_int Try.underlying3 h2
  obtain ⟨x3, e3, rfl, w3⟩ := DataW.trod_int Try.underlying3 h3
  obtain ⟨x4, e4, rfl, w4⟩ := DataW.trod_int Try.underlying3 h4
  obtain ⟨x5, e5, rfl, w5⟩ := DataW.trod_int Try.underlying3 h5
  obtain ⟨z6, z7, z8, z9, m, rfl, g6, g7, g8, g9⟩ := trod_array4 Try.underlying22 tint_one h6
  obtain ⟨z10, z11, z12, m', rfl, g10, g11, g12⟩ := trod_array3 Try.underlying23 tint_one h7
  obtain ⟨x6, e6, rfl, w6⟩ := DataW.trod_int Try.underlying3 g6
  obtain ⟨x7, e7, rfl, w7⟩ := DataW.trod_int Try.underlying3 g7
  obtain ⟨x8, e8, rfl, w8⟩ := DataW.trod_int Try.underlying3 g8
  obtain ⟨x9, e9, rfl, w9⟩ := DataW.trod_int Try.underlying3 g9
  obtain ⟨x10, e10, rfl, w10⟩ := DataW.trod_int Try.underlying3 g10
  obtain ⟨x11, e11, rfl, w11⟩ := DataW.trod_int Try.underlying3 g11
  obtain ⟨x12, e12, rfl, w12⟩ := DataW.trod_int Try.underlying3 g12
  simp at e0 e1 e2 e3 e4 e5 e6 e7 e8 e9 e10 e11 e12
  subst e0 e1 e2 e3 e4 e5 e6 e7 e8 e9 e10 e11 e12
  simp only [Prod.mk.injEq] at hx
  obtain ⟨rfl, rfl⟩ := hx
  exact ⟨⟨x0, x1, x2, x3, x4, x5, x6, x7, x8, x9, x10, x11, x12⟩, rfl, rfl, rfl, ⟨w0, w1, w2, w3, w4, w5, w6, w7, w8, w9, w10, w11, w12⟩⟩
theorem shut_tell {T : Tl} (W : WfT T) :
    DataW.Trod enc Try.prog w base spare held 25 (.agg #[.int .i64 T.t, .int .i64 T.m, .int .i64 T.fa, .int .i64 T.ak, .int .i64 T.er, .int .i64 T.rj, .int .i64 T.q0, .int .i64 T.q1, .int .i64 T.q2, .int .i64 T.q3, .int .i64 T.d0, .int .i64 T.d1, .int .i64 T.d2]) (tellD H T) [] :=
  ⟨3, by simp [DataW.trod, tellD, Value.cells, Try.underlying25, Try.underlying22, Try.underlying23, Try.underlying3, Try.underlying2, tell_cells, tq4_cells, td3_cells, tint_one, tint64_one, W.t, W.m, W.fa, W.ak, W.er, W.rj, W.q0, W.q1, W.q2, W.q3, W.d0, W.d1, W.d2, show List.range 3 = [0, 1, 2] from rfl, show List.range 4 = [0, 1, 2, 3] from rfl]⟩
end
end Go.Proofs.Ytchkedlfackfgaa
