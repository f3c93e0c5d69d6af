/-
  What the laws of alidadelaw03 call upon, for the seat Ytfokapiceibfnaa. (Made by mklaw03.py.)
-/
import Derived.Test.YtfokapiceibfnaaVCode
import Derived.Test.YtfokapiceibfnaaVNear
import Derived.Test.YtfokapiceibfnaaUCode
import Derived.Test.YtfokapiceibfnaaUCross
import Derived.Test.YtfokapiceibfnaaUUnit
import Derived.Test.YtfokapiceibfnaaUParts
import Derived.Test.YtfokapiceibfnaaVParts
import Derived.Test.YtfokapiceibfnaaVEqv
import Derived.Handy
namespace Go.Proofs.Ytfokapiceibfnaa
open Go.RowKit

theorem xAdd_any (b : Nat) (bad : Bool) (p : V3) (q : V3) (w : World) (hw : Fl b bad w) :
    Calls Try.prog 12 #[.pointer (some ⟨b, 0, none⟩), .agg #[.int .i64 p.1, .int .i64 p.2.1, .int .i64 p.2.2], .agg #[.int .i64 q.1, .int .i64 q.2.1, .int .i64 q.2.2]] w fun e w' => e = .returned (.agg #[.int .i64 ((vAddS bad p q).1.1), .int .i64 ((vAddS bad p q).1.2.1), .int .i64 ((vAddS bad p q).1.2.2)]) ∧ Fl b (vAddS bad p q).2 w' ∧ Kept b w w' := by
  have h := uAdd_any b bad p q w hw
  rw [uAdd_eq] at h
  exact h
theorem xSub_any (b : Nat) (bad : Bool) (p : V3) (q : V3) (w : World) (hw : Fl b bad w) :
    Calls Try.prog 14 #[.pointer (some ⟨b, 0, none⟩), .agg #[.int .i64 p.1, .int .i64 p.2.1, .int .i64 p.2.2], .agg #[.int .i64 q.1, .int .i64 q.2.1, .int .i64 q.2.2]] w fun e w' => e = .returned (.agg #[.int .i64 ((vSubS bad p q).1.1), .int .i64 ((vSubS bad p q).1.2.1), .int .i64 ((vSubS bad p q).1.2.2)]) ∧ Fl b (vSubS bad p q).2 w' ∧ Kept b w w' := by
  have h := uSub_any b bad p q w hw
  rw [uSub_eq] at h
  exact h
theorem xScale_any (b : Nat) (bad : Bool) (p : V3) (k : Int) (w : World) (hw : Fl b bad w) :
    Calls Try.prog 16 #[.pointer (some ⟨b, 0, none⟩), .agg #[.int .i64 p.1, .int .i64 p.2.1, .int .i64 p.2.2], .int .i64 k] w fun e w' => e = .returned (.agg #[.int .i64 ((vScaleS bad p k).1.1), .int .i64 ((vScaleS bad p k).1.2.1), .int .i64 ((vScaleS bad p k).1.2.2)]) ∧ Fl b (vScaleS bad p k).2 w' ∧ Kept b w w' := by
  have h := uScale_any b bad p k w hw
  rw [uScale_eq] at h
  exact h
theorem xDot_any (b : Nat) (bad : Bool) (p : V3) (q : V3) (w : World) (hw : Fl b bad w) :
    Calls Try.prog 18 #[.pointer (some ⟨b, 0, none⟩), .agg #[.int .i64 p.1, .int .i64 p.2.1, .int .i64 p.2.2], .agg #[.int .i64 q.1, .int .i64 q.2.1, .int .i64 q.2.2]] w fun e w' => e = .returned (.int .i64 ((vDotS bad p q).1)) ∧ Fl b (vDotS bad p q).2 w' ∧ Kept b w w' := by
  have h := uDot_any b bad p q w hw
  rw [uDot_eq] at h
  exact h
theorem xCross_any (b : Nat) (bad : Bool) (p : V3) (q : V3) (w : World) (hw : Fl b bad w) :
    Calls Try.prog 20 #[.pointer (some ⟨b, 0, none⟩), .agg #[.int .i64 p.1, .int .i64 p.2.1, .int .i64 p.2.2], .agg #[.int .i64 q.1, .int .i64 q.2.1, .int .i64 q.2.2]] w fun e w' => e = .returned (.agg #[.int .i64 ((vCrossS bad p q).1.1), .int .i64 ((vCrossS bad p q).1.2.1), .int .i64 ((vCrossS bad p q).1.2.2)]) ∧ Fl b (vCrossS bad p q).2 w' ∧ Kept b w w' := by
  have h := uCross_any b bad p q w hw
  rw [uCross_eq] at h
  exact h
theorem xNorm_any (b : Nat) (bad : Bool) (p : V3) (w : World) (hw : Fl b bad w) :
    Calls Try.prog 22 #[.pointer (some ⟨b, 0, none⟩), .agg #[.int .i64 p.1, .int .i64 p.2.1, .int .i64 p.2.2]] w fun e w' => e = .returned (.int .i64 ((vNormS bad p).1)) ∧ Fl b (vNormS bad p).2 w' ∧ Kept b w w' := by
  have h := uNorm_any b bad p w hw
  rw [uNorm_eq] at h
  exact h
theorem xUnit_any (b : Nat) (bad : Bool) (p : V3) (w : World) (hw : Fl b bad w) :
    Calls Try.prog 24 #[.pointer (some ⟨b, 0, none⟩), .agg #[.int .i64 p.1, .int .i64 p.2.1, .int .i64 p.2.2]] w fun e w' => e = .returned (.agg #[.int .i64 ((vUnitS bad p).1.1), .int .i64 ((vUnitS bad p).1.2.1), .int .i64 ((vUnitS bad p).1.2.2)]) ∧ Fl b (vUnitS bad p).2 w' ∧ Kept b w w' := by
  have h := uUnit_any b bad p w hw
  rw [uUnit_eq] at h
  exact h
theorem xParts_any (b : Nat) (bad : Bool) (p : V3) (q : V3) (w : World) (hw : Fl b bad w) :
    Calls Try.prog 26 #[.pointer (some ⟨b, 0, none⟩), .agg #[.int .i64 p.1, .int .i64 p.2.1, .int .i64 p.2.2], .agg #[.int .i64 q.1, .int .i64 q.2.1, .int .i64 q.2.2]] w fun e w' => e = .returned (.tuple #[.int .i64 ((vPartsS bad p q).1.1), .int .i64 ((vPartsS bad p q).1.2)]) ∧ Fl b (vPartsS bad p q).2 w' ∧ Kept b w w' := by
  have h := uParts_any b bad p q w hw
  rw [uParts_eq] at h
  exact h

set_option maxHeartbeats 400000 in
theorem flows_any (bad : Bool) (w : World) :
    Calls Try.prog 10 #[.bool bad] w fun e w' => e = .returned (.tuple #[.pointer (some ⟨w.heap.size, 0, none⟩), .pointer (some ⟨w.heap.size + 1, 0, none⟩)]) ∧ w' = (w.alloc (.cells #[.bool bad] 32)).alloc (.cells #[.bool bad] 33) := by
  go_enter Try.func10, Try.ntmps10
  go_wp2
  refine bodyPost_ret (v := .tuple #[.pointer (some ⟨w.heap.size, 0, none⟩), .pointer (some ⟨w.heap.size + 1, 0, none⟩)]) (by simp [results, Try.results10, go_sem]) rfl ?_
  exact ⟨rfl, rfl⟩

theorem awake_num : vCrossS false (1099511627776, 0, 0) (0, 1099511627776, 0) = ((0, 0, 1099511627776), false) := by decide +kernel

set_option maxHeartbeats 400000 in
theorem awake_any (w : World) : Calls Try.prog 9 #[] w fun e w' => e = .returned (.bool true) ∧ Below w.heap.size w w' := by
  go_enter Try.func9, Try.ntmps9
  go_wp2_with fail
  refine (vCross_any w.heap.size false (1099511627776, 0, 0) (0, 1099511627776, 0) _ (Fl_new _ _ _)).mono ?_
  rintro e w1 ⟨rfl, h2, h3⟩
  rw [awake_num] at h2 ⊢
  have H3 : Hid (Below w.heap.size w w1) := h3.below ((Below.refl _ _).alloc (Nat.le_refl _) _) (Nat.le_refl _) (by simp)
  have f1 := h2.cell
  have f2 := h2.lies
  clear h2 h3
  go_wp2
  go_ret
  exact ⟨rfl, bel_al H3.out _⟩
end Go.Proofs.Ytfokapiceibfnaa
