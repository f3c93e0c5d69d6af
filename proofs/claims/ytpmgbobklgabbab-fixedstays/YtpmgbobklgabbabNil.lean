/-
  Package fixed's methods of a nil flow, and of one that is bad, for the seat Ytpmgbobklgabbab.
-/
import Derived.Test.YtpmgbobklgabbabMNorm
import Derived.Test.YtpmgbobklgabbabLaws
import Derived.Handy
namespace Go.Proofs.Ytpmgbobklgabbab
open Go.RowKit

set_option maxHeartbeats 400000 in
theorem Fail_nil (w : World) : Calls Try.prog 7 #[.pointer none] w fun e w' => e = .returned (.tuple #[]) ∧ w' = w := by
  go_enter Try.func7, Try.ntmps7
  go_wp2
  go_end0
  exact ⟨rfl, rfl⟩

set_option maxHeartbeats 400000 in
theorem Add_nil (x y : Int) (w : World) :
    Calls Try.prog 8 #[.pointer none, .int .i64 x, .int .i64 y] w fun e w' => e = .returned (.int .i64 0) ∧ Below w.heap.size w w' := by
  go_enter Try.func8, Try.ntmps8
  go_wp2_with fail
  refine (takes_nil _ _).mono ?_
  rintro e w1 ⟨rfl, rfl⟩
  go_wp2
  go_ret
  exact ⟨rfl, by go_grown⟩

set_option maxHeartbeats 400000 in
theorem Sub_nil (x y : Int) (w : World) :
    Calls Try.prog 9 #[.pointer none, .int .i64 x, .int .i64 y] w fun e w' => e = .returned (.int .i64 0) ∧ Below w.heap.size w w' := by
  go_enter Try.func9, Try.ntmps9
  go_wp2_with fail
  refine (takes_nil _ _).mono ?_
  rintro e w1 ⟨rfl, rfl⟩
  go_wp2
  go_ret
  exact ⟨rfl, by go_grown⟩

set_option maxHeartbeats 400000 in
theorem Mul_nil (x y : Int) (w : World) :
    Calls Try.prog 10 #[.pointer none, .int .i64 x, .int .i64 y] w fun e w' => e = .returned (.int .i64 0) ∧ Below w.heap.size w w' := by
  go_enter Try.func10, Try.ntmps10
  go_wp2_with fail
  refine (takes_nil _ _).mono ?_
  rintro e w1 ⟨rfl, rfl⟩
  go_wp2
  go_ret
  exact ⟨rfl, by go_grown⟩

set_option maxHeartbeats 400000 in
theorem Sqrt_nil (x : Int) (w : World) :
    Calls Try.prog 12 #[.pointer none, .int .i64 x] w fun e w' => e = .returned (.int .i64 0) ∧ Below w.heap.size w w' := by
  go_enter Try.func12, Try.ntmps12
  go_wp2_with fail
  refine (takes_nil _ _).mono ?_
  rintro e w1 ⟨rfl, rfl⟩
  go_wp2
  go_ret
  exact ⟨rfl, by go_grown⟩

set_option maxHeartbeats 400000 in
theorem Part_nil (x p q : Int) (w : World) :
    Calls Try.prog 13 #[.pointer none, .int .i64 x, .int .i64 p, .int .i64 q] w fun e w' => e = .returned (.int .i64 0) ∧ Below w.heap.size w w' := by
  go_enter Try.func13, Try.ntmps13
  go_wp2_with fail
  refine (takes_nil _ _).mono ?_
  rintro e w1 ⟨rfl, rfl⟩
  go_wp2
  go_ret
  exact ⟨rfl, by go_grown⟩

set_option maxHeartbeats 400000 in
theorem Mod_nil (x y : Int) (w : World) :
    Calls Try.prog 14 #[.pointer none, .int .i64 x, .int .i64 y] w fun e w' => e = .returned (.int .i64 0) ∧ Below w.heap.size w w' := by
  go_enter Try.func14, Try.ntmps14
  go_wp2_with fail
  refine (takes_nil _ _).mono ?_
  rintro e w1 ⟨rfl, rfl⟩
  go_wp2
  go_ret
  exact ⟨rfl, by go_grown⟩

set_option maxHeartbeats 400000 in
theorem Norm_nil (x y z : Int) (w : World) :
    Calls Try.prog 15 #[.pointer none, .int .i64 x, .int .i64 y, .int .i64 z] w fun e w' => e = .returned (.int .i64 0) ∧ Below w.heap.size w w' := by
  go_enter Try.func15, Try.ntmps15
  go_wp2_with fail
  refine (takes_nil _ _).mono ?_
  rintro e w1 ⟨rfl, rfl⟩
  go_wp2
  go_ret
  exact ⟨rfl, by go_grown⟩

set_option maxHeartbeats 400000 in
theorem Div_nil (x y : Int) (w : World) :
    Calls Try.prog 11 #[.pointer none, .int .i64 x, .int .i64 y] w fun e w' => e = .returned (.int .i64 0) ∧ Below w.heap.size w w' := by
  go_enter Try.func11, Try.ntmps11
  go_wp2_with fail
  refine (Part_nil x 1099511627776 y _).mono ?_
  rintro e w1 ⟨rfl, h⟩
  go_wp2
  go_ret
  exact ⟨rfl, h⟩

theorem Add_bad (b : Nat) (x y : Int) (w : World) (hw : Fl b true w) :
    Calls Try.prog 8 #[.pointer (some ⟨b, 0, none⟩), .int .i64 x, .int .i64 y] w fun e w' => e = .returned (.int .i64 0) ∧ Fl b true w' ∧ Kept b w w' :=
  (Add_any b true x y w hw).mono fun _ _ h => by
    have e : addS true x y = (0, true) := rfl
    rw [e] at h
    exact h

theorem Sub_bad (b : Nat) (x y : Int) (w : World) (hw : Fl b true w) :
    Calls Try.prog 9 #[.pointer (some ⟨b, 0, none⟩), .int .i64 x, .int .i64 y] w fun e w' => e = .returned (.int .i64 0) ∧ Fl b true w' ∧ Kept b w w' :=
  (Sub_any b true x y w hw).mono fun _ _ h => by
    have e : subS true x y = (0, true) := rfl
    rw [e] at h
    exact h

theorem Mul_bad (b : Nat) (x y : Int) (w : World) (hw : Fl b true w) :
    Calls Try.prog 10 #[.pointer (some ⟨b, 0, none⟩), .int .i64 x, .int .i64 y] w fun e w' => e = .returned (.int .i64 0) ∧ Fl b true w' ∧ Kept b w w' :=
  (Mul_any b true x y w hw).mono fun _ _ h => by
    have e : mulS true x y = (0, true) := rfl
    rw [e] at h
    exact h

theorem Div_bad (b : Nat) (x y : Int) (w : World) (hw : Fl b true w) :
    Calls Try.prog 11 #[.pointer (some ⟨b, 0, none⟩), .int .i64 x, .int .i64 y] w fun e w' => e = .returned (.int .i64 0) ∧ Fl b true w' ∧ Kept b w w' :=
  (Div_any b true x y w hw).mono fun _ _ h => by
    have e : divS true x y = (0, true) := rfl
    rw [e] at h
    exact h

theorem Sqrt_bad (b : Nat) (x : Int) (w : World) (hw : Fl b true w) :
    Calls Try.prog 12 #[.pointer (some ⟨b, 0, none⟩), .int .i64 x] w fun e w' => e = .returned (.int .i64 0) ∧ Fl b true w' ∧ Kept b w w' :=
  (Sqrt_any b true x w hw).mono fun _ _ h => by
    have e : sqrtS true x = (0, true) := rfl
    rw [e] at h
    exact h

theorem Part_bad (b : Nat) (x p q : Int) (w : World) (hw : Fl b true w) :
    Calls Try.prog 13 #[.pointer (some ⟨b, 0, none⟩), .int .i64 x, .int .i64 p, .int .i64 q] w fun e w' => e = .returned (.int .i64 0) ∧ Fl b true w' ∧ Kept b w w' :=
  (Part_any b true x p q w hw).mono fun _ _ h => by
    have e : partS true x p q = (0, true) := rfl
    rw [e] at h
    exact h

theorem Mod_bad (b : Nat) (x y : Int) (w : World) (hw : Fl b true w) :
    Calls Try.prog 14 #[.pointer (some ⟨b, 0, none⟩), .int .i64 x, .int .i64 y] w fun e w' => e = .returned (.int .i64 0) ∧ Fl b true w' ∧ Kept b w w' :=
  (Mod_any b true x y w hw).mono fun _ _ h => by
    have e : modS true x y = (0, true) := rfl
    rw [e] at h
    exact h

theorem Norm_bad (b : Nat) (x y z : Int) (w : World) (hw : Fl b true w) :
    Calls Try.prog 15 #[.pointer (some ⟨b, 0, none⟩), .int .i64 x, .int .i64 y, .int .i64 z] w fun e w' => e = .returned (.int .i64 0) ∧ Fl b true w' ∧ Kept b w w' :=
  (Norm_any b true x y z w hw).mono fun _ _ h => by
    have e : normS true x y z = (0, true) := rfl
    rw [e] at h
    exact h
end Go.Proofs.Ytpmgbobklgabbab
