/-
  An argument of type api.Order, opened and shut, for the seat Ytpceomcnknjiiaa.
-/
import Derived.Test.YtpceomcnknjiiaaORow
import Derived.Test.YtpceomcnknjiiaaOdBack
namespace Go.Proofs.Ytpceomcnknjiiaa
open Go.ChangeShapes Go.WideShapes Go.ChangeAt Go.RowKit

set_option maxRecDepth 100000
theorem order_cells : Try.prog.cellsOf 25 = 9 := by kernel_rfl
theorem int_lone : Try.prog.cellsOf 3 = 1 := by kernel_rfl
theorem list9o {α : Type} (l : List α) (h : l.length = 9) : ∃ a b c d e f g i j, l = [a, b, c, d, e, f, g, i, j] := by
  match l, h with
  | [a, b, c, d, e, f, g, i, j], _ => exact ⟨a, b, c, d, e, f, g, i, j, rfl⟩
theorem list3o {α : Type} (l : List α) (h : l.length = 3) : ∃ a b c, l = [a, b, c] := by
  match l, h with
  | [a, b, c], _ => exact ⟨a, b, c, rfl⟩
structure WfO (a : Int × Int × V7) : Prop where
  w0 : (Lit.int .i64 a.1).wf = true
  w1 : (Lit.int .i64 a.2.1).wf = true
  w2 : Wf7 a.2.2
theorem WfO.in7 {a : Int × Int × V7} (h : WfO a) : In7 a.2.2 := by
  intro p hp
  match p, hp with
  | 0, _ => exact i64_of_wf h.w2.w0
  | 1, _ => exact i64_of_wf h.w2.w1
  | 2, _ => exact i64_of_wf h.w2.w2
  | 3, _ => exact i64_of_wf h.w2.w3
  | 4, _ => exact i64_of_wf h.w2.w4
  | 5, _ => exact i64_of_wf h.w2.w5
  | 6, _ => exact i64_of_wf h.w2.w6
section
variable {H : Type} {enc : TypeId × Value → H} {w : World} {base : Nat} {spare : Nat → Bool} {held : Bool}
def orderD (H : Type) (a : Int × Int × V7) : DataW H := .agg [.lit (.int .i64 a.1), .lit (.int .i64 a.2.1), .agg [.lit (.int .i64 a.2.2.1), .lit (.int .i64 a.2.2.2.1), .lit (.int .i64 a.2.2.2.2.1), .lit (.int .i64 a.2.2.2.2.2.1), .lit (.int .i64 a.2.2.2.2.2.2.1), .lit (.int .i64 a.2.2.2.2.2.2.2.1), .lit (.int .i64 a.2.2.2.2.2.2.2.2)]]
theorem open_order {r : Reach} {b0 : Nat} {v : Value} {d : DataW H} {ps : List MemPlace} (hval : Value.okWide Try.prog w r b0 25 v) (hd : DataW.Trod enc Try.prog w base spare held 25 v d ps) :
    ∃ a : Int × Int × V7, v = .agg #[.int .i64 a.1, .int .i64 a.2.1, .int .i64 a.2.2.1, .int .i64 a.2.2.2.1, .int .i64 a.2.2.2.2.1, .int .i64 a.2.2.2.2.2.1, .int .i64 a.2.2.2.2.2.2.1, .int .i64 a.2.2.2.2.2.2.2.1, .int .i64 a.2.2.2.2.2.2.2.2] ∧
      d = orderD H a ∧ ps = [] ∧ WfO a := by
  obtain ⟨cs, rfl, hsz, _⟩ : ∃ cs, v = .agg cs ∧ cs.size = Try.prog.cellsOf 25 ∧ Row.okWide Try.prog w r b0 25 cs := by
    simpa [Value.okWide, Try.underlying25] using hval
  rw [order_cells] at hsz
  obtain ⟨l⟩ := cs
  obtain ⟨c0, c1, c2, c3, c4, c5, c6, c7, c8, rfl⟩ := list9o l hsz
  obtain ⟨fuel, hf⟩ := hd
  obtain ⟨xs, n, _, hx, hl, hlen, hq⟩ := DataW.trod_struct Try.underlying25 hf
  obtain ⟨y0, y1, y2, rfl⟩ := list3o xs hlen
  have h0 := hq 0 _ rfl
  have h1 := hq 1 _ rfl
  have h2 := hq 2 _ rfl
  simp [int_lone, orbit_cells, Value.cells] at h0 h1 h2
  obtain ⟨x0, e0, rfl, w0⟩ := DataW.trod_int Try.underlying3 h0
  obtain ⟨x1, e1, rfl, w1⟩ := DataW.trod_int Try.underlying3 h1
  obtain ⟨zs, m, _, hz, hl2, hlen2, hq2⟩ := DataW.trod_struct Try.underlying23 h2
  obtain ⟨z0, z1, z2, z3, z4, z5, z6, rfl⟩ := list7 zs hlen2
  have g0 := hq2 0 _ rfl
  have g1 := hq2 1 _ rfl
  have g2 := hq2 2 _ rfl
  have g3 := hq2 3 _ rfl
  have g4 := hq2 4 _ rfl
  have g5 := hq2 5 _ rfl
  have g6 := hq2 6 _ rfl
  simp [int64_lone] at g0 g1 g2 g3 g4 g5 g6
  obtain ⟨t0, k0, rfl, v0⟩ := DataW.trod_int Try.underlying2 g0
  obtain ⟨t1, k1, rfl, v1⟩ := DataW.trod_int Try.underlying2 g1
  obtain ⟨t2, k2, rfl, v2⟩ := DataW.trod_int Try.underlying2 g2
  obtain ⟨t3, k3, rfl, v3⟩ := DataW.trod_int Try.underlying2 g3
  obtain ⟨t4, k4, rfl, v4⟩ := DataW.trod_int Try.underlying2 g4
  obtain ⟨t5, k5, rfl, v5⟩ := DataW.trod_int Try.underlying2 g5
  obtain ⟨t6, k6, rfl, v6⟩ := DataW.trod_int Try.underlying2 g6
  simp at e0 e1 k0 k1 k2 k3 k4 k5 k6
  subst e0 e1 k0 k1 k2 k3 k4 k5 k6
  subst hz
  simp only [Prod.mk.injEq] at hx
  obtain ⟨rfl, rfl⟩ := hx
  exact ⟨(x0, x1, t0, t1, t2, t3, t4, t5, t6), rfl, rfl, rfl, ⟨w0, w1, ⟨v0, v1, v2, v3, v4, v5, v6⟩⟩⟩
theorem shut_order {a : Int × Int × V7} (W : WfO a) :
    DataW.Trod enc Try.prog w base spare held 25 (.agg #[.int .i64 a.1, .int .i64 a.2.1, .int .i64 a.2.2.1, .int .i64 a.2.2.2.1, .int .i64 a.2.2.2.2.1, .int .i64 a.2.2.2.2.2.1, .int .i64 a.2.2.2.2.2.2.1, .int .i64 a.2.2.2.2.2.2.2.1, .int .i64 a.2.2.2.2.2.2.2.2]) (orderD H a) [] :=
  ⟨3, by simp [DataW.trod, orderD, Value.cells, Try.underlying25, Try.underlying23, Try.underlying3, Try.underlying2, order_cells, orbit_cells, int_lone, int64_lone, W.w0, W.w1, W.w2.w0, W.w2.w1, W.w2.w2, W.w2.w3, W.w2.w4, W.w2.w5, W.w2.w6]⟩
end
end Go.Proofs.Ytpceomcnknjiiaa
