/-
  Small functions of field, for the seat YtoadcnhcfodkgaaGreatDoor. (Made by mkfield.py.)
-/
import Derived.Test.YtoadcnhcfodkgaaGreatDoorFStep
import Derived.Test.YtoadcnhcfodkgaaGreatDoorMeth
import Derived.Test.YtoadcnhcfodkgaaGreatDoorVMem
import Derived.Handy
import Derived.Deep.RegionHeld3
namespace Go.Proofs.YtoadcnhcfodkgaaGreatDoor
open Go.RowKit

set_option maxRecDepth 100000 in
set_option maxHeartbeats 2000000 in
theorem microteslas_any (b : Nat) (bad : Bool) (x : Int) (w : World) (hw : Fl b bad w) :
    Calls Tryz.prog 283 #[.pointer (some ⟨b, 0, none⟩), .int .i64 x] w fun e w' => e = .returned (.int .i64 ((partS bad 1099511627776 x 10000).1)) ∧ Fl b (partS bad 1099511627776 x 10000).2 w' ∧ Kept b w w' := by
  have hl := hw.lies
  go_enter Tryz.func283, Tryz.ntmps283
  go_wp2_with fail
  refine (Part_any b bad 1099511627776 x 10000 _ hw).mono ?_
  rintro e w1 ⟨rfl, f1, k1⟩
  generalize e1 : partS bad 1099511627776 x 10000 = r1 at f1 ⊢
  have E1 : Hid _ := e1
  clear e1
  have K1 : Kept b w w1 := Kept.trans (Kept.refl b w) k1
  have z1 := K1.size
  clear k1
  go_wp2
  go_ret
  have hs : partS bad 1099511627776 x 10000 = (r1.1, r1.2) := by simp only [E1.out]
  rw [hs]
  exact ⟨rfl, f1, K1⟩
set_option maxRecDepth 100000 in
set_option maxHeartbeats 2000000 in
theorem rootOf_w (b : Nat) (bad : Bool) (n : Int) (m : Int) (w : World) (hw : Fl b bad w) (a0 : 0 ≤ n * n) (a6 : n * n ≤ 36) (b0 : 0 ≤ m * m) (b6 : m * m ≤ 36) :
    Calls Tryz.prog 284 #[.pointer (some ⟨b, 0, none⟩), .int .i64 n, .int .i64 m] w fun e w' => e = .returned (.int .i64 ((rootS bad n m).1)) ∧ Fl b (rootS bad n m).2 w' ∧ Kept b w w' := by
  have hl := hw.lies
  go_enter Tryz.func284, Tryz.ntmps284
  go_wp2_with fail
  refine (Sqrt_any b bad (((n * n) - (m * m)) * 1099511627776) _ hw).mono ?_
  rintro e w1 ⟨rfl, f1, k1⟩
  generalize e1 : sqrtS bad (((n * n) - (m * m)) * 1099511627776) = r1 at f1 ⊢
  have E1 : Hid _ := e1
  clear e1
  have K1 : Kept b w w1 := Kept.trans (Kept.refl b w) k1
  have z1 := K1.size
  clear k1
  go_wp2
  go_ret
  have hs : rootS bad n m = (r1.1, r1.2) := by unfold rootS; simp only [E1.out]
  rw [hs]
  exact ⟨rfl, f1, K1⟩
theorem rootOf_any (b : Nat) (bad : Bool) (n m : Int) (w : World) (hw : Fl b bad w) (n0 : 0 ≤ n) (n6 : n ≤ 6) (m0 : 0 ≤ m) (m6 : m ≤ 6) :
    Calls Tryz.prog 284 #[.pointer (some ⟨b, 0, none⟩), .int .i64 n, .int .i64 m] w fun e w' => e = .returned (.int .i64 (rootS bad n m).1) ∧ Fl b (rootS bad n m).2 w' ∧ Kept b w w' := by
  have a := Int.mul_nonneg n0 n0; have a' := Int.mul_le_mul n6 n6 n0 (by decide)
  have c := Int.mul_nonneg m0 m0; have c' := Int.mul_le_mul m6 m6 m0 (by decide)
  exact rootOf_w b bad n m w hw (by omega) (by omega) (by omega) (by omega)
end Go.Proofs.YtoadcnhcfodkgaaGreatDoor
