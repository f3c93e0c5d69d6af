/-
  Arguments of types api.Plan and api.Seen, opened and shut, for the seat Ytocnaflhedccpaa.
-/
import Derived.Test.YtocnaflhedccpaaRows
import Derived.Test.YtocnaflhedccpaaMdAwake
import Derived.WalkKit
import Derived.ProofKit
import Derived.OpenShut
import Derived.ChangeSame
import Derived.Laws.IdiomArrays
namespace Go.Proofs.Ytocnaflhedccpaa
open Go.ChangeShapes Go.WideShapes Go.ChangeAt Go.RowKit

theorem plan_cells : Try.prog.cellsOf 23 = 6 := by kernel_rfl
theorem aseen_cells : Try.prog.cellsOf 25 = 8 := by kernel_rfl
theorem md_int : Try.prog.cellsOf 3 = 1 := by kernel_rfl
theorem md_bool : Try.prog.cellsOf 4 = 1 := by kernel_rfl
theorem md_list6 {α : Type} (l : List α) (h : l.length = 6) : ∃ a b c d e f, l = [a, b, c, d, e, f] := by
  match l, h with
  | [a, b, c, d, e, f], _ => exact ⟨a, b, c, d, e, f, rfl⟩
theorem md_list8 {α : Type} (l : List α) (h : l.length = 8) : ∃ a b c d e f g i, l = [a, b, c, d, e, f, g, i] := by
  match l, h with
  | [a, b, c, d, e, f, g, i], _ => exact ⟨a, b, c, d, e, f, g, i, rfl⟩
structure WfP6 (a : Pl) : Prop where
  mode : (Lit.int .i64 a.mode).wf = true
  calm : (Lit.int .i64 a.calm).wf = true
  good : (Lit.int .i64 a.good).wf = true
  miss : (Lit.int .i64 a.miss).wf = true
  lost : (Lit.int .i64 a.lost).wf = true
  faults : (Lit.int .i64 a.faults).wf = true
theorem i64_wf {n : Int} (h : (Lit.int .i64 n).wf = true) : I64 n := ⟨(i64_of_wf h).1, (i64_of_wf h).2⟩
theorem wf_plan {a : Pl} (h : WfP6 a) : WfPl a := ⟨i64_wf h.mode, i64_wf h.calm, i64_wf h.good, i64_wf h.miss, i64_wf h.lost, i64_wf h.faults⟩
section
variable {H : Type} {enc : TypeId × Value → H} {w : World} {base : Nat} {spare : Nat → Bool} {held : Bool}
def planD (H : Type) (a : Pl) : DataW H := .agg [.lit (.int .i64 a.mode), .lit (.int .i64 a.calm), .lit (.int .i64 a.good), .lit (.int .i64 a.miss), .lit (.int .i64 a.lost), .lit (.int .i64 a.faults)]
def aseenD (H : Type) (a : Sn) : DataW H := .agg [.lit (.bool a.gap), .lit (.bool a.gyro), .lit (.bool a.slow), .lit (.bool a.pair), .lit (.bool a.lit), .lit (.bool a.bad), .lit (.bool a.pass), .lit (.int .i64 a.order)]
theorem open_plan {r : Reach} {b0 : Nat} {v : Value} {d : DataW H} {ps : List MemPlace} (hval : Value.okWide Try.prog w r b0 23 v) (hd : DataW.Trod enc Try.prog w base spare held 23 v d ps) :
    ∃ a : Pl, v = .agg #[.int .i64 a.mode, .int .i64 a.calm, .int .i64 a.good, .int .i64 a.miss, .int .i64 a.lost, .int .i64 a.faults] ∧ d = planD H a ∧ ps = [] ∧ WfP6 a := by
  obtain ⟨cs, rfl, hsz, _⟩ : ∃ cs, v = .agg cs ∧ cs.size = Try.prog.cellsOf 23 ∧ Row.okWide Try.prog w r b0 23 cs := by
    simpa [Value.okWide, Try.underlying23] using hval
  rw [plan_cells] at hsz
  obtain ⟨l⟩ := cs
  obtain ⟨c0, c1, c2, c3, c4, c5, rfl⟩ := md_list6 l hsz
  obtain ⟨fuel, hf⟩ := hd
  obtain ⟨xs, n, _, hx, hl, hlen, hq⟩ := DataW.trod_struct Try.underlying23 hf
  obtain ⟨y0, y1, y2, y3, y4, y5, rfl⟩ := md_list6 xs hlen
  have h0 := hq 0 _ rfl
  have h1 := hq 1 _ rfl
  have h2 := hq 2 _ rfl
  have h3 := hq 3 _ rfl
  have h4 := hq 4 _ rfl
  have h5 := hq 5 _ rfl
  simp [md_int, Value.cells] at h0 h1 h2 h3 h4 h5
  obtain ⟨x0, e0, rfl, w0⟩ := DataW.trod_int Try.underlying3 h0
  obtain ⟨x1, e1, rfl, w1⟩ := DataW.trod_int Try.underlying3 h1
  obtain ⟨x2, e2, rfl, w2⟩ := DataW.trod_int Try.underlying3 h2
  obtain ⟨x3, e3, rfl, w3⟩ := DataW.trod_int Try.underlying3 h3
  obtain ⟨x4, e4, rfl, w4⟩ := DataW.trod_int Try.underlying3 h4
  obtain ⟨x5, e5, rfl, w5⟩ := DataW.trod_int Try.underlying3 h5
  simp at e0 e1 e2 e3 e4 e5
  subst e0 e1 e2 e3 e4 e5
  simp only [Prod.mk.injEq] at hx
  obtain ⟨rfl, rfl⟩ := hx
  exact ⟨⟨x0, x1, x2, x3, x4, x5⟩, rfl, rfl, rfl, ⟨w0, w1, w2, w3, w4, w5⟩⟩
theorem shut_plan {a : Pl} (W : WfP6 a) : DataW.Trod enc Try.prog w base spare held 23 (.agg #[.int .i64 a.mode, .int .i64 a.calm, .int .i64 a.good, .int .i64 a.miss, .int .i64 a.lost, .int .i64 a.faults]) (planD H a) [] :=
  ⟨3, by simp [DataW.trod, planD, Value.cells, Try.underlying23, Try.underlying3, plan_cells, md_int, W.mode, W.calm, W.good, W.miss, W.lost, W.faults]⟩
theorem trod_aseen {fuel : Nat} {c0 c1 c2 c3 c4 c5 c6 c7 : Value} {x : DataW H × List MemPlace} (hf : DataW.trod enc Try.prog w base spare held fuel 25 [c0, c1, c2, c3, c4, c5, c6, c7] = some x) :
    ∃ a : Sn, c0 = .bool a.gap ∧ c1 = .bool a.gyro ∧ c2 = .bool a.slow ∧ c3 = .bool a.pair ∧ c4 = .bool a.lit ∧ c5 = .bool a.bad ∧ c6 = .bool a.pass ∧ c7 = .int .i64 a.order ∧ x = (aseenD H a, []) ∧ (Lit.int .i64 a.order).wf = true := by
  obtain ⟨xs, n, _, hx, hl, hlen, hq⟩ := DataW.trod_struct Try.underlying25 hf
  obtain ⟨y0, y1, y2, y3, y4, y5, y6, y7, rfl⟩ := md_list8 xs hlen
  have h0 := hq 0 _ rfl
  have h1 := hq 1 _ rfl
  have h2 := hq 2 _ rfl
  have h3 := hq 3 _ rfl
  have h4 := hq 4 _ rfl
  have h5 := hq 5 _ rfl
  have h6 := hq 6 _ rfl
  have h7 := hq 7 _ rfl
  simp [md_int, md_bool] at h0 h1 h2 h3 h4 h5 h6 h7
  obtain ⟨x0, e0, rfl⟩ := DataW.trod_bool Try.underlying4 h0
  obtain ⟨x1, e1, rfl⟩ := DataW.trod_bool Try.underlying4 h1
  obtain ⟨x2, e2, rfl⟩ := DataW.trod_bool Try.underlying4 h2
  obtain ⟨x3, e3, rfl⟩ := DataW.trod_bool Try.underlying4 h3
  obtain ⟨x4, e4, rfl⟩ := DataW.trod_bool Try.underlying4 h4
  obtain ⟨x5, e5, rfl⟩ := DataW.trod_bool Try.underlying4 h5
  obtain ⟨x6, e6, rfl⟩ := DataW.trod_bool Try.underlying4 h6
  obtain ⟨x7, e7, rfl, w7⟩ := DataW.trod_int Try.underlying3 h7
  simp at e0 e1 e2 e3 e4 e5 e6 e7
  subst e0 e1 e2 e3 e4 e5 e6 e7
  exact ⟨⟨x0, x1, x2, x3, x4, x5, x6, x7⟩, rfl, rfl, rfl, rfl, rfl, rfl, rfl, rfl, hx, w7⟩
theorem open_aseen {r : Reach} {b0 : Nat} {v : Value} {d : DataW H} {ps : List MemPlace} (hval : Value.okWide Try.prog w r b0 25 v) (hd : DataW.Trod enc Try.prog w base spare held 25 v d ps) :
    ∃ a : Sn, v = .agg #[.bool a.gap, .bool a.gyro, .bool a.slow, .bool a.pair, .bool a.lit, .bool a.bad, .bool a.pass, .int .i64 a.order] ∧ d = aseenD H a ∧ ps = [] ∧ (Lit.int .i64 a.order).wf = true := by
  obtain ⟨cs, rfl, hsz, _⟩ : ∃ cs, v = .agg cs ∧ cs.size = Try.prog.cellsOf 25 ∧ Row.okWide Try.prog w r b0 25 cs := by
    simpa [Value.okWide, Try.underlying25] using hval
  rw [aseen_cells] at hsz
  obtain ⟨l⟩ := cs
  obtain ⟨c0, c1, c2, c3, c4, c5, c6, c7, rfl⟩ := md_list8 l hsz
  obtain ⟨fuel, hf⟩ := hd
  obtain ⟨a, rfl, rfl, rfl, rfl, rfl, rfl, rfl, rfl, hx, wa⟩ := trod_aseen (show DataW.trod enc Try.prog w base spare held fuel 25 [c0, c1, c2, c3, c4, c5, c6, c7] = _ from hf)
  simp only [Prod.mk.injEq] at hx
  obtain ⟨rfl, rfl⟩ := hx
  exact ⟨a, rfl, rfl, rfl, wa⟩
theorem shut_aseen {a : Sn} (W : (Lit.int .i64 a.order).wf = true) : DataW.Trod enc Try.prog w base spare held 25 (.agg #[.bool a.gap, .bool a.gyro, .bool a.slow, .bool a.pair, .bool a.lit, .bool a.bad, .bool a.pass, .int .i64 a.order]) (aseenD H a) [] :=
  ⟨3, by simp [DataW.trod, aseenD, Value.cells, Try.underlying25, Try.underlying3, Try.underlying4, aseen_cells, md_int, md_bool, W]⟩
end
end Go.Proofs.Ytocnaflhedccpaa
