/-
  Walks of package triad, for the seat Ytkeijfbpkdelpaa. (Made by mktriad.py.)
-/
import Derived.Test.YtkeijfbpkdelpaaDSpec
import Derived.Test.YtkeijfbpkdelpaaVParts
import Derived.Test.YtkeijfbpkdelpaaStop
import Derived.Handy
import Derived.Deep.RegionHeld3
namespace Go.Proofs.Ytkeijfbpkdelpaa
open Go.RowKit

set_option maxRecDepth 100000 in
set_option maxHeartbeats 2000000 in
theorem dApart_any (b : Nat) (bad : Bool) (p : V3) (q : V3) (w : World) (hw : Fl b bad w) :
    Calls Try.prog 8 #[.pointer (some ⟨b, 0, none⟩), .agg #[.int .i64 p.1, .int .i64 p.2.1, .int .i64 p.2.2], .agg #[.int .i64 q.1, .int .i64 q.2.1, .int .i64 q.2.2]] w fun e w' => e = .returned (.bool ((dApartS bad p q).1)) ∧ Fl b (dApartS bad p q).2 w' ∧ Kept b w w' := by
  have hl := hw.lies
  go_enter Try.func8, Try.ntmps8
  go_wp2_with fail
  refine (vParts_any b bad p q _ ((hw.alloc _).alloc _)).mono ?_
  rintro e w1 ⟨rfl, f1, k1⟩
  generalize e1 : vPartsS bad p q = r1 at f1 ⊢
  have E1 : Hid _ := e1
  clear e1
  have K1 : Kept b w w1 := Kept.trans (((Kept.refl b w).al _).al _) k1
  have B0_1 : Arr w.heap.size [.int .i64 p.1, .int .i64 p.2.1, .int .i64 p.2.2] w1 := ((Arr_at _ _ [.int .i64 p.1, .int .i64 p.2.1, .int .i64 p.2.2] _ (by simp)).alloc _).kept k1 (by omega)
  have B1_1 : Arr (w.heap.size + 1) [.int .i64 q.1, .int .i64 q.2.1, .int .i64 q.2.2] w1 := (Arr_at _ _ [.int .i64 q.1, .int .i64 q.2.1, .int .i64 q.2.2] _ (by simp)).kept k1 (by omega)
  have z1 := B1_1.lies
  clear k1
  go_wp2
  go_ret
  have hs : dApartS bad p q = ((decide (r1.1.1 ≥ 190928190487)), r1.2) := by unfold dApartS; simp only [E1.out]
  rw [hs]
  exact ⟨rfl, f1, K1⟩
end Go.Proofs.Ytkeijfbpkdelpaa
