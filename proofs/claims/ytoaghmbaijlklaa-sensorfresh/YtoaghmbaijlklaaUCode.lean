/-
  The walks of package alidaderef03, for the seat Ytoaghmbaijlklaa. (Made by mkref03.py.)
-/
import Derived.Test.YtoaghmbaijlklaaUSpec
import Derived.Test.YtoaghmbaijlklaaVMem
import Derived.Test.YtoaghmbaijlklaaRMeth
import Derived.Test.YtoaghmbaijlklaaRNorm
import Derived.Handy
import Derived.Deep.RegionHeld3
namespace Go.Proofs.Ytoaghmbaijlklaa
open Go.RowKit

set_option maxHeartbeats 400000 in
theorem done_any (b : Nat) (bad : Bool) (v : V3) (w : World) (hw : Fl b bad w) :
    Calls Try.prog 35 #[.pointer (some ⟨b, 0, none⟩), .agg #[.int .i64 v.1, .int .i64 v.2.1, .int .i64 v.2.2]] w fun e w' => e = .returned (.agg #[.int .i64 (soundS bad v).1.1, .int .i64 (soundS bad v).1.2.1, .int .i64 (soundS bad v).1.2.2]) ∧ Fl b (soundS bad v).2 w' ∧ Kept b w w' := by
  have hc := hw.cell
  have hl := hw.lies
  have HW : Hid _ := hw
  clear hw
  cases bad
  · go_enter Try.func35, Try.ntmps35
    go_wp2
    refine bodyPost_ret (v := .agg #[.int .i64 v.1, .int .i64 v.2.1, .int .i64 v.2.2]) (by simp [results, Try.results35, go_sem]) rfl ?_
    exact ⟨rfl, (HW.out.alloc _).alloc _, ((Kept.refl _ _).al _).al _⟩
  · go_enter Try.func35, Try.ntmps35
    go_wp2
    refine bodyPost_ret (v := .agg #[.int .i64 0, .int .i64 0, .int .i64 0]) (by simp [results, Try.results35, go_sem]) rfl ?_
    exact ⟨rfl, (HW.out.alloc _).alloc _, ((Kept.refl _ _).al _).al _⟩

set_option maxRecDepth 100000 in
set_option maxHeartbeats 2000000 in
theorem uNorm_any (b : Nat) (bad : Bool) (p : V3) (w : World) (hw : Fl b bad w) :
    Calls Try.prog 22 #[.pointer (some ⟨b, 0, none⟩), .agg #[.int .i64 p.1, .int .i64 p.2.1, .int .i64 p.2.2]] w fun e w' => e = .returned (.int .i64 ((uNormS bad p).1)) ∧ Fl b (uNormS bad p).2 w' ∧ Kept b w w' := by
  have hl := hw.lies
  go_enter Try.func22, Try.ntmps22
  go_wp2_with fail
  refine (rNorm_any b bad p.1 p.2.1 p.2.2 _ (hw.alloc _)).mono ?_
  rintro e w1 ⟨rfl, f1, k1⟩
  generalize e1 : normS bad p.1 p.2.1 p.2.2 = r1 at f1 ⊢
  have E1 : Hid _ := e1
  clear e1
  have K1 : Kept b w w1 := Kept.trans ((Kept.refl b w).al _) k1
  have B0_1 : Arr w.heap.size [.int .i64 p.1, .int .i64 p.2.1, .int .i64 p.2.2] w1 := (Arr_at _ _ [.int .i64 p.1, .int .i64 p.2.1, .int .i64 p.2.2] _ (by simp)).kept k1 (by omega)
  have z1 := B0_1.lies
  clear k1
  go_wp2
  go_ret
  have hs : uNormS bad p = (r1.1, r1.2) := by unfold uNormS; simp only [E1.out]
  rw [hs]
  exact ⟨rfl, f1, K1⟩
end Go.Proofs.Ytoaghmbaijlklaa
