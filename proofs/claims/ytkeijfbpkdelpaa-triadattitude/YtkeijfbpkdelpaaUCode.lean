/-
  The walks of package alidaderef03, for the seat Ytkeijfbpkdelpaa. (Made by mkref03.py.)
-/
import Derived.Test.YtkeijfbpkdelpaaUSpec
import Derived.Test.YtkeijfbpkdelpaaVMem
import Derived.Test.YtkeijfbpkdelpaaRMeth
import Derived.Test.YtkeijfbpkdelpaaRNorm
import Derived.Handy
import Derived.Deep.RegionHeld3
namespace Go.Proofs.Ytkeijfbpkdelpaa
open Go.RowKit

set_option maxHeartbeats 400000 in
theorem done_any (b : Nat) (bad : Bool) (v : V3) (w : World) (hw : Fl b bad w) :
    Calls Try.prog 71 #[.pointer (some ⟨b, 0, none⟩), .agg #[.int .i64 v.1, .int .i64 v.2.1, .int .i64 v.2.2]] w fun e w' => e = .returned (.agg #[.int .i64 (soundS bad v).1.1, .int .i64 (soundS bad v).1.2.1, .int .i64 (soundS bad v).1.2.2]) ∧ Fl b (soundS bad v).2 w' ∧ Kept b w w' := by
  have hc := hw.cell
  have hl := hw.lies
  have HW : Hid _ := hw
  clear hw
  cases bad
  · go_enter Try.func71, Try.ntmps71
    go_wp2
    refine bodyPost_ret (v := .agg #[.int .i64 v.1, .int .i64 v.2.1, .int .i64 v.2.2]) (by simp [results, Try.results71, go_sem]) rfl ?_
    exact ⟨rfl, (HW.out.alloc _).alloc _, ((Kept.refl _ _).al _).al _⟩
  · go_enter Try.func71, Try.ntmps71
    go_wp2
    refine bodyPost_ret (v := .agg #[.int .i64 0, .int .i64 0, .int .i64 0]) (by simp [results, Try.results71, go_sem]) rfl ?_
    exact ⟨rfl, (HW.out.alloc _).alloc _, ((Kept.refl _ _).al _).al _⟩

set_option maxRecDepth 100000 in
set_option maxHeartbeats 2000000 in
theorem uDot_any (b : Nat) (bad : Bool) (p : V3) (q : V3) (w : World) (hw : Fl b bad w) :
    Calls Try.prog 48 #[.pointer (some ⟨b, 0, none⟩), .agg #[.int .i64 p.1, .int .i64 p.2.1, .int .i64 p.2.2], .agg #[.int .i64 q.1, .int .i64 q.2.1, .int .i64 q.2.2]] w fun e w' => e = .returned (.int .i64 ((uDotS bad p q).1)) ∧ Fl b (uDotS bad p q).2 w' ∧ Kept b w w' := by
  have hl := hw.lies
  go_enter Try.func48, Try.ntmps48
  go_wp2_with fail
  refine (rMul_any b bad p.1 q.1 _ ((hw.alloc _).alloc _)).mono ?_
  rintro e w1 ⟨rfl, f1, k1⟩
  generalize e1 : mulS bad p.1 q.1 = r1 at f1 ⊢
  have E1 : Hid _ := e1
  clear e1
  have K1 : Kept b w w1 := Kept.trans (((Kept.refl b w).al _).al _) k1
  have B0_1 : Arr w.heap.size [.int .i64 p.1, .int .i64 p.2.1, .int .i64 p.2.2] w1 := ((Arr_at _ _ [.int .i64 p.1, .int .i64 p.2.1, .int .i64 p.2.2] _ (by simp)).alloc _).kept k1 (by omega)
  have B1_1 : Arr (w.heap.size + 1) [.int .i64 q.1, .int .i64 q.2.1, .int .i64 q.2.2] w1 := (Arr_at _ _ [.int .i64 q.1, .int .i64 q.2.1, .int .i64 q.2.2] _ (by simp)).kept k1 (by omega)
  have z1 := B1_1.lies
  clear k1
  have c2_B0_1 : w1.cell? ⟨w.heap.size, 1, none⟩ = some (.int .i64 p.2.1) := B0_1.c 1 (of_decide_eq_true rfl)
  have c2_B1_1 : w1.cell? ⟨w.heap.size + 1, 1, none⟩ = some (.int .i64 q.2.1) := B1_1.c 1 (of_decide_eq_true rfl)
  go_wp2_with fail
  refine (rMul_any b r1.2 p.2.1 q.2.1 _ f1).mono ?_
  rintro e w2 ⟨rfl, f2, k2⟩
  generalize e2 : mulS r1.2 p.2.1 q.2.1 = r2 at f2 ⊢
  have E2 : Hid _ := e2
  clear e2
  have K2 : Kept b w w2 := Kept.trans K1 k2
  have B0_2 : Arr w.heap.size [.int .i64 p.1, .int .i64 p.2.1, .int .i64 p.2.2] w2 := B0_1.kept k2 (by omega)
  have B1_2 : Arr (w.heap.size + 1) [.int .i64 q.1, .int .i64 q.2.1, .int .i64 q.2.2] w2 := B1_1.kept k2 (by omega)
  have z2 := B1_2.lies
  clear c2_B0_1 c2_B1_1 K1 f1 B0_1 B1_1 k2
  have c3_B0_2 : w2.cell? ⟨w.heap.size, 2, none⟩ = some (.int .i64 p.2.2) := B0_2.c 2 (of_decide_eq_true rfl)
  have c3_B1_2 : w2.cell? ⟨w.heap.size + 1, 2, none⟩ = some (.int .i64 q.2.2) := B1_2.c 2 (of_decide_eq_true rfl)
  go_wp2_with fail
  refine (rMul_any b r2.2 p.2.2 q.2.2 _ f2).mono ?_
  rintro e w3 ⟨rfl, f3, k3⟩
  generalize e3 : mulS r2.2 p.2.2 q.2.2 = r3 at f3 ⊢
  have E3 : Hid _ := e3
  clear e3
  have K3 : Kept b w w3 := Kept.trans K2 k3
  have B0_3 : Arr w.heap.size [.int .i64 p.1, .int .i64 p.2.1, .int .i64 p.2.2] w3 := B0_2.kept k3 (by omega)
  have B1_3 : Arr (w.heap.size + 1) [.int .i64 q.1, .int .i64 q.2.1, .int .i64 q.2.2] w3 := B1_2.kept k3 (by omega)
  have z3 := B1_3.lies
  clear c3_B0_2 c3_B1_2 K2 f2 B0_2 B1_2 k3
  go_wp2_with fail
  refine (rAdd_any b r3.2 r1.1 r2.1 _ f3).mono ?_
  rintro e w4 ⟨rfl, f4, k4⟩
  generalize e4 : addS r3.2 r1.1 r2.1 = r4 at f4 ⊢
  have E4 : Hid _ := e4
  clear e4
  have K4 : Kept b w w4 := Kept.trans K3 k4
  have B0_4 : Arr w.heap.size [.int .i64 p.1, .int .i64 p.2.1, .int .i64 p.2.2] w4 := B0_3.kept k4 (by omega)
  have B1_4 : Arr (w.heap.size + 1) [.int .i64 q.1, .int .i64 q.2.1, .int .i64 q.2.2] w4 := B1_3.kept k4 (by omega)
  have z4 := B1_4.lies
  clear K3 f3 B0_3 B1_3 k4
  go_wp2_with fail
  refine (rAdd_any b r4.2 r4.1 r3.1 _ f4).mono ?_
  rintro e w5 ⟨rfl, f5, k5⟩
  generalize e5 : addS r4.2 r4.1 r3.1 = r5 at f5 ⊢
  have E5 : Hid _ := e5
  clear e5
  have K5 : Kept b w w5 := Kept.trans K4 k5
  have B0_5 : Arr w.heap.size [.int .i64 p.1, .int .i64 p.2.1, .int .i64 p.2.2] w5 := B0_4.kept k5 (by omega)
  have B1_5 : Arr (w.heap.size + 1) [.int .i64 q.1, .int .i64 q.2.1, .int .i64 q.2.2] w5 := B1_4.kept k5 (by omega)
  have z5 := B1_5.lies
  clear K4 f4 B0_4 B1_4 k5
  go_wp2
  go_ret
  have hs : uDotS bad p q = (r5.1, r5.2) := by unfold uDotS; simp only [E1.out, E2.out, E3.out, E4.out, E5.out]
  rw [hs]
  exact ⟨rfl, f5, K5⟩
set_option maxRecDepth 100000 in
set_option maxHeartbeats 2000000 in
theorem uNorm_any (b : Nat) (bad : Bool) (p : V3) (w : World) (hw : Fl b bad w) :
    Calls Try.prog 46 #[.pointer (some ⟨b, 0, none⟩), .agg #[.int .i64 p.1, .int .i64 p.2.1, .int .i64 p.2.2]] w fun e w' => e = .returned (.int .i64 ((uNormS bad p).1)) ∧ Fl b (uNormS bad p).2 w' ∧ Kept b w w' := by
  have hl := hw.lies
  go_enter Try.func46, Try.ntmps46
  go_wp2_with fail
  refine (rNorm_any b bad p.1 p.2.1 p.2.2 _ (hw.alloc _)).mono ?_
  rintro e w1 ⟨rfl, f1, k1⟩
  generalize e1 : normS bad p.1 p.2.1 p.2.2 = r1 at f1 ⊢
  have E1 : Hid _ := e1
  clear e1
  have K1 : Kept b w w1 := Kept.trans ((Kept.refl b w).al _) k1
  have B0_1 : Arr w.heap.size [.int .i64 p.1, .int .i64 p.2.1, .int .i64 p.2.2] w1 := (Arr_at _ _ [.int .i64 p.1, .int .i64 p.2.1, .int .i64 p.2.2] _ (by simp)).kept k1 (by omega)
  have z1 := B0_1.lies
  clear k1
  go_wp2
  go_ret
  have hs : uNormS bad p = (r1.1, r1.2) := by unfold uNormS; simp only [E1.out]
  rw [hs]
  exact ⟨rfl, f1, K1⟩
end Go.Proofs.Ytkeijfbpkdelpaa
