/- A part. -/
import Derived.Test.YtpjobkbefgehjaaGreatJC
import Derived.Test.YtpjobkbefgehjaaGreatRows
import Derived.WalkKit
import Derived.ProofKit
import Derived.OpenShut
import Derived.Laws.IdiomArrays
namespace Go.Proofs.YtpjobkbefgehjaaGreat
open Go.ChangeShapes Go.WideShapes Go.ChangeAt Go.RowKit
set_option maxRecDepth 100000
section
variable {H : Type} {enc : TypeId × Value → H} {w : World} {base : Nat} {spare : Nat → Bool} {held : Bool}
end
end Go.Proofs.YtpjobkbefgehjaaGreat
namespace Go.Proofs.YtpjobkbefgehjaaGreat
open Go.ChangeShapes Go.WideShapes Go.ChangeAt Go.RowKit
set_option maxRecDepth 100000
theorem vecs2_cells : Tryz.prog.cellsOf 41 = 6 := by kernel_rfl
section
variable {H : Type} {enc : TypeId × Value → H} {w : World} {base : Nat} {spare : Nat → Bool} {held : Bool}
end
end Go.Proofs.YtpjobkbefgehjaaGreat
namespace Go.Proofs.YtpjobkbefgehjaaGreat
open Go.ChangeShapes Go.WideShapes Go.ChangeAt Go.RowKit
set_option maxRecDepth 100000
theorem row_cells : Tryz.prog.cellsOf 27 = 6 := by kernel_rfl
theorem mat_cells : Tryz.prog.cellsOf 29 = 36 := by kernel_rfl
theorem int64_one : Tryz.prog.cellsOf 2 = 1 := by kernel_rfl
theorem list6r {α : Type} (l : List α) (h : l.length = 6) : ∃ a b c d e f, l = [a, b, c, d, e, f] := by
 match l, h with
 | [a, b, c, d, e, f], _ => exact ⟨a, b, c, d, e, f, rfl⟩
theorem range6 : List.range 6 = [0, 1, 2, 3, 4, 5] := rfl
def Wfs (N : Nat) (f : Nat → Int) : Prop := ∀ i, i < N → (Lit.int .i64 (f i)).wf = true
section
variable {H : Type} {enc : TypeId × Value → H} {w : World} {base : Nat} {spare : Nat → Bool} {held : Bool}
def rowD (H : Type) (f : Nat → Int) : DataW H := .agg [.lit (.int .i64 (f 0)), .lit (.int .i64 (f 1)), .lit (.int .i64 (f 2)), .lit (.int .i64 (f 3)), .lit (.int .i64 (f 4)), .lit (.int .i64 (f 5))]
theorem trod_row {fuel : Nat} {l : List Value} {x : DataW H × List MemPlace} (h : DataW.trod enc Tryz.prog w base spare held fuel 27 l = some x) (hl : l.length = 6) : ∃ f : Nat → Int, l = row 6 f ∧ x = (rowD H f, []) ∧ Wfs 6 f := by
 obtain ⟨c0, c1, c2, c3, c4, c5, rfl⟩ := list6r l hl
 cases fuel with
 | zero => simp [DataW.trod] at h
 | succ n =>
  unfold DataW.trod at h
  rw [Tryz.underlying27] at h
  simp [range6, int64_one] at h
  obtain ⟨_, h⟩ := h
  cases h0 : DataW.trod enc Tryz.prog w base spare held n 2 [c0] with
  | none => simp [h0] at h
  | some y0 =>
   cases h1 : DataW.trod enc Tryz.prog w base spare held n 2 [c1] with
   | none => simp [h0, h1] at h
   | some y1 =>
    cases h2 : DataW.trod enc Tryz.prog w base spare held n 2 [c2] with
    | none => simp [h0, h1, h2] at h
    | some y2 =>
     cases h3 : DataW.trod enc Tryz.prog w base spare held n 2 [c3] with
     | none => simp [h0, h1, h2, h3] at h
     | some y3 =>
      cases h4 : DataW.trod enc Tryz.prog w base spare held n 2 [c4] with
      | none => simp [h0, h1, h2, h3, h4] at h
      | some y4 =>
       cases h5 : DataW.trod enc Tryz.prog w base spare held n 2 [c5] with
       | none => simp [h0, h1, h2, h3, h4, h5] at h
       | some y5 =>
        simp [h0, h1, h2, h3, h4, h5] at h
        obtain ⟨x0, e0, rfl, w0⟩ := DataW.trod_int Tryz.underlying2 h0
        obtain ⟨x1, e1, rfl, w1⟩ := DataW.trod_int Tryz.underlying2 h1
        obtain ⟨x2, e2, rfl, w2⟩ := DataW.trod_int Tryz.underlying2 h2
        obtain ⟨x3, e3, rfl, w3⟩ := DataW.trod_int Tryz.underlying2 h3
        obtain ⟨x4, e4, rfl, w4⟩ := DataW.trod_int Tryz.underlying2 h4
        obtain ⟨x5, e5, rfl, w5⟩ := DataW.trod_int Tryz.underlying2 h5
        simp at e0 e1 e2 e3 e4 e5
        subst e0 e1 e2 e3 e4 e5
        refine ⟨fun i => [x0, x1, x2, x3, x4, x5].getD i 0, rfl, ?_, fun i hi => ?_⟩
        ·rw [← h]; rfl
        ·match i, hi with
         | 0, _ => exact w0
         | 1, _ => exact w1
         | 2, _ => exact w2
         | 3, _ => exact w3
         | 4, _ => exact w4
         | 5, _ => exact w5
theorem shut_row_f {f : Nat → Int} (W : Wfs 6 f) (n : Nat) : DataW.trod enc Tryz.prog w base spare held (n + 2) 27 (row 6 f) = some (rowD H f, []) := by
 have w0 := W 0 (by decide); have w1 := W 1 (by decide); have w2 := W 2 (by decide); have w3 := W 3 (by decide); have w4 := W 4 (by decide); have w5 := W 5 (by decide)
 rw [show row 6 f = [.int .i64 (f 0), .int .i64 (f 1), .int .i64 (f 2), .int .i64 (f 3), .int .i64 (f 4), .int .i64 (f 5)] from rfl]
 simp [DataW.trod, rowD, Tryz.underlying27, Tryz.underlying2, row_cells, int64_one, w0, w1, w2, w3, w4, w5, range6]
def six (f0 f1 f2 f3 f4 f5 : Nat → Int) : Nat → Int := fun i => if i < 6 then f0 i else if i < 12 then f1 (i - 6) else if i < 18 then f2 (i - 12) else if i < 24 then f3 (i - 18) else if i < 30 then f4 (i - 24) else f5 (i - 30)
theorem six_row (f0 f1 f2 f3 f4 f5 : Nat → Int) : row 6 f0 ++ (row 6 f1 ++ (row 6 f2 ++ (row 6 f3 ++ (row 6 f4 ++ row 6 f5)))) = row 36 (six f0 f1 f2 f3 f4 f5) := rfl
def matD (H : Type) (g : Nat → Int) : DataW H := .agg [rowD H g, rowD H (fun i => g (6 + i)), rowD H (fun i => g (12 + i)), rowD H (fun i => g (18 + i)), rowD H (fun i => g (24 + i)), rowD H (fun i => g (30 + i))]
theorem cut_six {l : List Value} (h : l.length = 36) : l = l.take 6 ++ ((l.drop 6).take 6 ++ ((l.drop 12).take 6 ++ ((l.drop 18).take 6 ++ ((l.drop 24).take 6 ++ (l.drop 30).take 6)))) := by
 have e : ∀ k, l.drop k = (l.drop k).take 6 ++ l.drop (k + 6) := fun k => by rw [← List.drop_drop]; exact (List.take_append_drop 6 (l.drop k)).symm
 have e5 : (l.drop 30).take 6 = l.drop 30 := List.take_of_length_le (by rw [List.length_drop]; omega)
 rw [e5, ← e 24, ← e 18, ← e 12, ← e 6]
 exact (List.take_append_drop 6 l).symm
theorem trod_mat {fuel : Nat} {l : List Value} {x : DataW H × List MemPlace} (h : DataW.trod enc Tryz.prog w base spare held fuel 29 l = some x) (hl : l.length = 36) : ∃ g : Nat → Int, l = row 36 g ∧ x = (matD H g, []) ∧ Wfs 36 g := by
 cases fuel with
 | zero => simp [DataW.trod] at h
 | succ n =>
  unfold DataW.trod at h
  rw [Tryz.underlying29] at h
  simp [range6, row_cells] at h
  obtain ⟨_, h⟩ := h
  cases h0 : DataW.trod enc Tryz.prog w base spare held n 27 (List.take 6 l) with
  | none => simp [h0] at h
  | some y0 =>
   cases h1 : DataW.trod enc Tryz.prog w base spare held n 27 (List.take 6 (List.drop 6 l)) with
   | none => simp [h0, h1] at h
   | some y1 =>
    cases h2 : DataW.trod enc Tryz.prog w base spare held n 27 (List.take 6 (List.drop 12 l)) with
    | none => simp [h0, h1, h2] at h
    | some y2 =>
     cases h3 : DataW.trod enc Tryz.prog w base spare held n 27 (List.take 6 (List.drop 18 l)) with
     | none => simp [h0, h1, h2, h3] at h
     | some y3 =>
      cases h4 : DataW.trod enc Tryz.prog w base spare held n 27 (List.take 6 (List.drop 24 l)) with
      | none => simp [h0, h1, h2, h3, h4] at h
      | some y4 =>
       cases h5 : DataW.trod enc Tryz.prog w base spare held n 27 (List.take 6 (List.drop 30 l)) with
       | none => simp [h0, h1, h2, h3, h4, h5] at h
       | some y5 =>
        simp [h0, h1, h2, h3, h4, h5] at h
        obtain ⟨f0, e0, rfl, w0⟩ := trod_row h0 (by simp; omega)
        obtain ⟨f1, e1, rfl, w1⟩ := trod_row h1 (by simp; omega)
        obtain ⟨f2, e2, rfl, w2⟩ := trod_row h2 (by simp; omega)
        obtain ⟨f3, e3, rfl, w3⟩ := trod_row h3 (by simp; omega)
        obtain ⟨f4, e4, rfl, w4⟩ := trod_row h4 (by simp; omega)
        obtain ⟨f5, e5, rfl, w5⟩ := trod_row h5 (by simp; omega)
        refine ⟨six f0 f1 f2 f3 f4 f5, ?_, ?_, fun i hi => ?_⟩
        ·rw [← six_row, ← e0, ← e1, ← e2, ← e3, ← e4, ← e5]; exact cut_six hl
        ·rw [← h]; rfl
        ·unfold six
         by_cases c0 : i < 6
         ·rw [if_pos c0]; exact w0 _ (by omega)
         rw [if_neg c0]
         by_cases c1 : i < 12
         ·rw [if_pos c1]; exact w1 _ (by omega)
         rw [if_neg c1]
         by_cases c2 : i < 18
         ·rw [if_pos c2]; exact w2 _ (by omega)
         rw [if_neg c2]
         by_cases c3 : i < 24
         ·rw [if_pos c3]; exact w3 _ (by omega)
         rw [if_neg c3]
         by_cases c4 : i < 30
         ·rw [if_pos c4]; exact w4 _ (by omega)
         rw [if_neg c4]
         exact w5 _ (by omega)
end
end Go.Proofs.YtpjobkbefgehjaaGreat
namespace Go.Proofs.YtpjobkbefgehjaaGreat
open Go.ChangeShapes Go.WideShapes Go.ChangeAt Go.RowKit
set_option maxRecDepth 100000
theorem guess_cells43 : Tryz.prog.cellsOf 31 = 43 := by kernel_rfl
theorem quat_cells4 : Tryz.prog.cellsOf 23 = 4 := by kernel_rfl
theorem vec_cells3 : Tryz.prog.cellsOf 25 = 3 := by kernel_rfl
section
variable {H : Type} {enc : TypeId × Value → H} {w : World} {base : Nat} {spare : Nat → Bool} {held : Bool}
def quatD (H : Type) (f : Nat → Int) : DataW H := .agg [.lit (.int .i64 (f 0)), .lit (.int .i64 (f 1)), .lit (.int .i64 (f 2)), .lit (.int .i64 (f 3))]
theorem trod_quatr {fuel : Nat} {l : List Value} {x : DataW H × List MemPlace} (h : DataW.trod enc Tryz.prog w base spare held fuel 23 l = some x) (hl : l.length = 4) : ∃ f : Nat → Int, l = row 4 f ∧ x = (quatD H f, []) ∧ Wfs 4 f := by
 obtain ⟨c0, c1, c2, c3, rfl⟩ : ∃ c0 c1 c2 c3, l = [c0, c1, c2, c3] := by
  match l, hl with
  | [c0, c1, c2, c3], _ => exact ⟨c0, c1, c2, c3, rfl⟩
 cases fuel with
 | zero => simp [DataW.trod] at h
 | succ n =>
  unfold DataW.trod at h
  rw [Tryz.underlying23] at h
  simp [show List.range 4 = [0, 1, 2, 3] from rfl, int64_one] at h
  obtain ⟨_, h⟩ := h
  cases h0 : DataW.trod enc Tryz.prog w base spare held n 2 [c0] with
  | none => simp [h0] at h
  | some y0 =>
   cases h1 : DataW.trod enc Tryz.prog w base spare held n 2 [c1] with
   | none => simp [h0, h1] at h
   | some y1 =>
    cases h2 : DataW.trod enc Tryz.prog w base spare held n 2 [c2] with
    | none => simp [h0, h1, h2] at h
    | some y2 =>
     cases h3 : DataW.trod enc Tryz.prog w base spare held n 2 [c3] with
     | none => simp [h0, h1, h2, h3] at h
     | some y3 =>
      simp [h0, h1, h2, h3] at h
      obtain ⟨x0, e0, rfl, w0⟩ := DataW.trod_int Tryz.underlying2 h0
      obtain ⟨x1, e1, rfl, w1⟩ := DataW.trod_int Tryz.underlying2 h1
      obtain ⟨x2, e2, rfl, w2⟩ := DataW.trod_int Tryz.underlying2 h2
      obtain ⟨x3, e3, rfl, w3⟩ := DataW.trod_int Tryz.underlying2 h3
      simp at e0 e1 e2 e3
      subst e0 e1 e2 e3
      refine ⟨fun i => [x0, x1, x2, x3].getD i 0, rfl, ?_, fun i hi => ?_⟩
      ·rw [← h]; rfl
      ·match i, hi with
       | 0, _ => exact w0
       | 1, _ => exact w1
       | 2, _ => exact w2
       | 3, _ => exact w3
theorem shut_quatr {f : Nat → Int} (W : Wfs 4 f) (n : Nat) : DataW.trod enc Tryz.prog w base spare held (n + 2) 23 (row 4 f) = some (quatD H f, []) := by
 have w0 := W 0 (by decide); have w1 := W 1 (by decide); have w2 := W 2 (by decide); have w3 := W 3 (by decide)
 rw [show row 4 f = [.int .i64 (f 0), .int .i64 (f 1), .int .i64 (f 2), .int .i64 (f 3)] from rfl]
 simp [DataW.trod, quatD, Tryz.underlying23, Tryz.underlying2, quat_cells4, int64_one, w0, w1, w2, w3, show List.range 4 = [0, 1, 2, 3] from rfl]
def vec3D (H : Type) (f : Nat → Int) : DataW H := .agg [.lit (.int .i64 (f 0)), .lit (.int .i64 (f 1)), .lit (.int .i64 (f 2))]
theorem trod_vecr {fuel : Nat} {l : List Value} {x : DataW H × List MemPlace} (h : DataW.trod enc Tryz.prog w base spare held fuel 25 l = some x) (hl : l.length = 3) : ∃ f : Nat → Int, l = row 3 f ∧ x = (vec3D H f, []) ∧ Wfs 3 f := by
 obtain ⟨c0, c1, c2, rfl⟩ : ∃ c0 c1 c2, l = [c0, c1, c2] := by
  match l, hl with
  | [c0, c1, c2], _ => exact ⟨c0, c1, c2, rfl⟩
 cases fuel with
 | zero => simp [DataW.trod] at h
 | succ n =>
  unfold DataW.trod at h
  rw [Tryz.underlying25] at h
  simp [show List.range 3 = [0, 1, 2] from rfl, int64_one] at h
  obtain ⟨_, h⟩ := h
  cases h0 : DataW.trod enc Tryz.prog w base spare held n 2 [c0] with
  | none => simp [h0] at h
  | some y0 =>
   cases h1 : DataW.trod enc Tryz.prog w base spare held n 2 [c1] with
   | none => simp [h0, h1] at h
   | some y1 =>
    cases h2 : DataW.trod enc Tryz.prog w base spare held n 2 [c2] with
    | none => simp [h0, h1, h2] at h
    | some y2 =>
     simp [h0, h1, h2] at h
     obtain ⟨x0, e0, rfl, w0⟩ := DataW.trod_int Tryz.underlying2 h0
     obtain ⟨x1, e1, rfl, w1⟩ := DataW.trod_int Tryz.underlying2 h1
     obtain ⟨x2, e2, rfl, w2⟩ := DataW.trod_int Tryz.underlying2 h2
     simp at e0 e1 e2
     subst e0 e1 e2
     refine ⟨fun i => [x0, x1, x2].getD i 0, rfl, ?_, fun i hi => ?_⟩
     ·rw [← h]; rfl
     ·match i, hi with
      | 0, _ => exact w0
      | 1, _ => exact w1
      | 2, _ => exact w2
theorem shut_vecr {f : Nat → Int} (W : Wfs 3 f) (n : Nat) : DataW.trod enc Tryz.prog w base spare held (n + 2) 25 (row 3 f) = some (vec3D H f, []) := by
 have w0 := W 0 (by decide); have w1 := W 1 (by decide); have w2 := W 2 (by decide)
 rw [show row 3 f = [.int .i64 (f 0), .int .i64 (f 1), .int .i64 (f 2)] from rfl]
 simp [DataW.trod, vec3D, Tryz.underlying25, Tryz.underlying2, vec_cells3, int64_one, w0, w1, w2, show List.range 3 = [0, 1, 2] from rfl]
def guessD (H : Type) (f : Nat → Int) : DataW H := .agg [quatD H f, vec3D H (fun i => f (4 + i)), matD H (fun i => f (7 + i))]
def join3 (f0 f1 f2 : Nat → Int) : Nat → Int := fun i => if i < 4 then f0 i else if i < 7 then f1 (i - 4) else f2 (i - 7)
theorem join3_row (f0 f1 f2 : Nat → Int) : row 4 f0 ++ (row 3 f1 ++ row 36 f2) = row 43 (join3 f0 f1 f2) := rfl
theorem cut_three {l : List Value} (h : l.length = 43) : l = l.take 4 ++ ((l.drop 4).take 3 ++ (l.drop 7).take 36) := by
 have h1 : (l.drop 7).take 36 = l.drop 7 := List.take_of_length_le (by rw [List.length_drop]; omega)
 rw [h1]
 have h2 : l.drop 7 = (l.drop 4).drop 3 := by rw [List.drop_drop]
 rw [h2, List.take_append_drop, List.take_append_drop]
theorem open_guess {r : Reach} {b0 : Nat} {v : Value} {d : DataW H} {ps : List MemPlace} (hval : Value.okWide Tryz.prog w r b0 31 v) (hd : DataW.Trod enc Tryz.prog w base spare held 31 v d ps) :
  ∃ g : Nat → Int, v = .agg (row 43 g).toArray ∧ d = guessD H g ∧ ps = [] ∧ Wfs 43 g := by
 obtain ⟨cs, rfl, hsz, _⟩ : ∃ cs, v = .agg cs ∧ cs.size = Tryz.prog.cellsOf 31 ∧ Row.okWide Tryz.prog w r b0 31 cs := by
  simpa [Value.okWide, Tryz.underlying31] using hval
 rw [guess_cells43] at hsz
 obtain ⟨l⟩ := cs
 have hl : l.length = 43 := hsz
 obtain ⟨fuel, hf⟩ := hd
 obtain ⟨xs, n, _, hx, _, hlen, hq⟩ := DataW.trod_struct Tryz.underlying31 hf
 obtain ⟨y0, y1, y2, rfl⟩ : ∃ a b c, xs = [a, b, c] := by
  match xs, hlen with
  | [a, b, c], _ => exact ⟨a, b, c, rfl⟩
 have h0 := hq 0 _ rfl
 have h1 := hq 1 _ rfl
 have h2 := hq 2 _ rfl
 simp [quat_cells4, vec_cells3, mat_cells, Value.cells] at h0 h1 h2
 obtain ⟨f0, e0, rfl, w0⟩ := trod_quatr h0 (by simp; omega)
 obtain ⟨f1, e1, rfl, w1⟩ := trod_vecr h1 (by simp; omega)
 obtain ⟨f2, e2, rfl, w2⟩ := trod_mat h2 (by simp; omega)
 simp only [Prod.mk.injEq] at hx
 obtain ⟨rfl, rfl⟩ := hx
 refine ⟨join3 f0 f1 f2, ?_, rfl, rfl, fun i hi => ?_⟩
 ·rw [← join3_row, ← e0, ← e1, ← e2, ← cut_three hl]
 ·unfold join3
  by_cases c0 : i < 4
  ·rw [if_pos c0]; exact w0 _ (by omega)
  rw [if_neg c0]
  by_cases c1 : i < 7
  ·rw [if_pos c1]; exact w1 _ (by omega)
  rw [if_neg c1]
  exact w2 _ (by omega)
theorem shut_mat_f {g : Nat → Int} (W : Wfs 36 g) : DataW.trod enc Tryz.prog w base spare held 3 29 (row 36 g) = some (matD H g, []) := by
 have r : ∀ k, k + 6 ≤ 36 → DataW.trod enc Tryz.prog w base spare held 2 27 (row 6 fun i => g (k + i)) = some (rowD H fun i => g (k + i), []) := fun k hk => shut_row_f (fun i hi => W (k + i) (by omega)) 0
 have r0 : DataW.trod enc Tryz.prog w base spare held 2 27 (row 6 g) = some (rowD H g, []) := shut_row_f (fun i hi => W i (by omega)) 0
 have r1 := r 6 (by decide); have r2 := r 12 (by decide); have r3 := r 18 (by decide); have r4 := r 24 (by decide); have r5 := r 30 (by decide)
 have t0 : List.take 6 (row 36 g) = row 6 g := rfl
 have t1 : List.take 6 (List.drop 6 (row 36 g)) = row 6 fun i => g (6 + i) := rfl
 have t2 : List.take 6 (List.drop 12 (row 36 g)) = row 6 fun i => g (12 + i) := rfl
 have t3 : List.take 6 (List.drop 18 (row 36 g)) = row 6 fun i => g (18 + i) := rfl
 have t4 : List.take 6 (List.drop 24 (row 36 g)) = row 6 fun i => g (24 + i) := rfl
 have t5 : List.take 6 (List.drop 30 (row 36 g)) = row 6 fun i => g (30 + i) := rfl
 unfold DataW.trod
 rw [Tryz.underlying29]
 simp [range6, row_cells, mat_cells, row_len, t0, t1, t2, t3, t4, t5, r0, r1, r2, r3, r4, r5, matD]
theorem shut_guess {g : Nat → Int} (W : Wfs 43 g) : DataW.Trod enc Tryz.prog w base spare held 31 (.agg (row 43 g).toArray) (guessD H g) [] := by
 have r0 : DataW.trod enc Tryz.prog w base spare held 3 23 (row 4 g) = some (quatD H g, []) := shut_quatr (fun i hi => W i (by omega)) 1
 have r1 : DataW.trod enc Tryz.prog w base spare held 3 25 (row 3 fun i => g (4 + i)) = some (vec3D H fun i => g (4 + i), []) := shut_vecr (fun i hi => W (4 + i) (by omega)) 1
 have r2 : DataW.trod enc Tryz.prog w base spare held 3 29 (row 36 fun i => g (7 + i)) = some (matD H fun i => g (7 + i), []) := shut_mat_f (fun i hi => W (7 + i) (by omega))
 have t0 : List.take 4 (row 43 g) = row 4 g := rfl
 have t1 : List.take 3 (List.drop 4 (row 43 g)) = row 3 fun i => g (4 + i) := rfl
 have t2 : List.take 36 (List.drop 7 (row 43 g)) = row 36 fun i => g (7 + i) := rfl
 refine ⟨4, ?_⟩
 show DataW.trod enc Tryz.prog w base spare held 4 31 (row 43 g) = _
 unfold DataW.trod
 rw [Tryz.underlying31]
 simp [quat_cells4, vec_cells3, mat_cells, guess_cells43, row_len, t0, t1, t2, r0, r1, r2, guessD]
def v2D (H : Type) (f : Nat → Int) : DataW H := .agg [vec3D H f, vec3D H (fun i => f (3 + i))]
theorem range2 : List.range 2 = [0, 1] := rfl
theorem trod_v2r {fuel : Nat} {l : List Value} {x : DataW H × List MemPlace} (h : DataW.trod enc Tryz.prog w base spare held fuel 41 l = some x) (hl : l.length = 6) : ∃ f : Nat → Int, l = row 6 f ∧ x = (v2D H f, []) ∧ Wfs 6 f := by
 cases fuel with
 | zero => simp [DataW.trod] at h
 | succ n =>
  unfold DataW.trod at h
  rw [Tryz.underlying41] at h
  simp [range2, vec_cells3] at h
  obtain ⟨_, h⟩ := h
  cases h0 : DataW.trod enc Tryz.prog w base spare held n 25 (List.take 3 l) with
  | none => simp [h0] at h
  | some y0 =>
   cases h1 : DataW.trod enc Tryz.prog w base spare held n 25 (List.take 3 (List.drop 3 l)) with
   | none => simp [h0, h1] at h
   | some y1 =>
    simp [h0, h1] at h
    obtain ⟨f0, e0, rfl, w0⟩ := trod_vecr h0 (by simp; omega)
    obtain ⟨f1, e1, rfl, w1⟩ := trod_vecr h1 (by simp; omega)
    refine ⟨fun i => if i < 3 then f0 i else f1 (i - 3), ?_, ?_, fun i hi => ?_⟩
    ·have e2 : l = l.take 3 ++ (l.drop 3).take 3 := by
      rw [List.take_of_length_le (show (l.drop 3).length ≤ 3 by rw [List.length_drop]; omega), List.take_append_drop]
     rw [e2, e0, e1]
     rfl
    ·rw [← h]; rfl
    ·dsimp only
     by_cases c0 : i < 3
     ·rw [if_pos c0]; exact w0 _ (by omega)
     ·rw [if_neg c0]; exact w1 _ (by omega)
theorem shut_v2r {f : Nat → Int} (W : Wfs 6 f) (n : Nat) : DataW.trod enc Tryz.prog w base spare held (n + 3) 41 (row 6 f) = some (v2D H f, []) := by
 have r0 : DataW.trod enc Tryz.prog w base spare held (n + 2) 25 (row 3 f) = some (vec3D H f, []) := shut_vecr (fun i hi => W i (by omega)) n
 have r1 : DataW.trod enc Tryz.prog w base spare held (n + 2) 25 (row 3 fun i => f (3 + i)) = some (vec3D H fun i => f (3 + i), []) := shut_vecr (fun i hi => W (3 + i) (by omega)) n
 have t0 : List.take 3 (row 6 f) = row 3 f := rfl
 have t1 : List.take 3 (List.drop 3 (row 6 f)) = row 3 fun i => f (3 + i) := rfl
 unfold DataW.trod
 rw [Tryz.underlying41]
 simp [range2, vec_cells3, vecs2_cells, row_len, t0, t1, r0, r1, v2D]
theorem open_v2 {r : Reach} {b0 : Nat} {v : Value} {d : DataW H} {ps : List MemPlace} (hval : Value.okWide Tryz.prog w r b0 41 v) (hd : DataW.Trod enc Tryz.prog w base spare held 41 v d ps) :
  ∃ f : Nat → Int, v = .agg (row 6 f).toArray ∧ d = v2D H f ∧ ps = [] ∧ Wfs 6 f := by
 obtain ⟨cs, rfl, hsz, _⟩ : ∃ cs, v = .agg cs ∧ cs.size = Tryz.prog.cellsOf 41 ∧ Row.okWide Tryz.prog w r b0 41 cs := by
  simpa [Value.okWide, Tryz.underlying41] using hval
 rw [vecs2_cells] at hsz
 obtain ⟨l⟩ := cs
 obtain ⟨fuel, hf⟩ := hd
 obtain ⟨g, e, hx, W⟩ := trod_v2r hf hsz
 simp only [Prod.mk.injEq] at hx
 obtain ⟨rfl, rfl⟩ := hx
 refine ⟨g, ?_, rfl, rfl, W⟩
 rw [show l = row 6 g from e]
theorem shut_v2 {f : Nat → Int} (W : Wfs 6 f) : DataW.Trod enc Tryz.prog w base spare held 41 (.agg (row 6 f).toArray) (v2D H f) [] := ⟨3, by simpa [Value.cells] using shut_v2r (enc := enc) (w := w) (base := base) (spare := spare) (held := held) W 0⟩
end
end Go.Proofs.YtpjobkbefgehjaaGreat
