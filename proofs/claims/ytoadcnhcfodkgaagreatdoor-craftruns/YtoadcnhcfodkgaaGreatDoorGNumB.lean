/-
  The walks of Number, where the model has none, for the seat YtoadcnhcfodkgaaGreatDoor. (Made by mkfield.py.)
-/
import Derived.Test.YtoadcnhcfodkgaaGreatDoorFStep
import Derived.Test.YtoadcnhcfodkgaaGreatDoorMeth
import Derived.Test.YtoadcnhcfodkgaaGreatDoorVPart
import Derived.Test.YtoadcnhcfodkgaaGreatDoorCCDays
import Derived.Test.YtoadcnhcfodkgaaGreatDoorStop
import Derived.Handy
import Derived.Deep.RegionHeld3
namespace Go.Proofs.YtoadcnhcfodkgaaGreatDoor
open Go.RowKit

set_option maxRecDepth 100000 in
set_option maxHeartbeats 4000000 in
theorem num_ba (b : Nat) (n m t : Int) (w : World) (hw : Fl b false w) (c1 : n < 1) :
    Calls Tryz.prog 266 #[.pointer (some ⟨b, 0, none⟩), .int .i64 n, .int .i64 m, .int .i64 t] w fun e w' => e = .returned (.tuple #[.int .i64 0, .int .i64 0]) ∧ Fl b true w' ∧ Kept b w w' := by
  have hl := hw.lies
  go_enter Tryz.func266, Tryz.ntmps266
  go_wp2_with fail
  refine (Fail_any b false  _ hw).mono ?_
  rintro e w1 ⟨rfl, f1, k1⟩
  have K1 : Kept b w w1 := Kept.trans (Kept.refl b w) k1
  have z1 := K1.size
  clear k1
  go_wp2
  refine bodyPost_ret (v := .tuple #[.int .i64 0, .int .i64 0]) (by simp [results, Tryz.results266, go_sem]) rfl ?_
  exact ⟨rfl, f1, K1⟩
set_option maxRecDepth 100000 in
set_option maxHeartbeats 4000000 in
theorem num_bb (b : Nat) (n m t : Int) (w : World) (hw : Fl b false w) (c1 : ¬ n < 1) (c2 : n > 6) :
    Calls Tryz.prog 266 #[.pointer (some ⟨b, 0, none⟩), .int .i64 n, .int .i64 m, .int .i64 t] w fun e w' => e = .returned (.tuple #[.int .i64 0, .int .i64 0]) ∧ Fl b true w' ∧ Kept b w w' := by
  have hl := hw.lies
  go_enter Tryz.func266, Tryz.ntmps266
  go_wp2_with fail
  refine (Fail_any b false  _ hw).mono ?_
  rintro e w1 ⟨rfl, f1, k1⟩
  have K1 : Kept b w w1 := Kept.trans (Kept.refl b w) k1
  have z1 := K1.size
  clear k1
  go_wp2
  refine bodyPost_ret (v := .tuple #[.int .i64 0, .int .i64 0]) (by simp [results, Tryz.results266, go_sem]) rfl ?_
  exact ⟨rfl, f1, K1⟩
set_option maxRecDepth 100000 in
set_option maxHeartbeats 4000000 in
theorem num_bc (b : Nat) (n m t : Int) (w : World) (hw : Fl b false w) (c1 : ¬ n < 1) (c2 : ¬ n > 6) (c3 : m < 0) :
    Calls Tryz.prog 266 #[.pointer (some ⟨b, 0, none⟩), .int .i64 n, .int .i64 m, .int .i64 t] w fun e w' => e = .returned (.tuple #[.int .i64 0, .int .i64 0]) ∧ Fl b true w' ∧ Kept b w w' := by
  have hl := hw.lies
  go_enter Tryz.func266, Tryz.ntmps266
  go_wp2_with fail
  refine (Fail_any b false  _ hw).mono ?_
  rintro e w1 ⟨rfl, f1, k1⟩
  have K1 : Kept b w w1 := Kept.trans (Kept.refl b w) k1
  have z1 := K1.size
  clear k1
  go_wp2
  refine bodyPost_ret (v := .tuple #[.int .i64 0, .int .i64 0]) (by simp [results, Tryz.results266, go_sem]) rfl ?_
  exact ⟨rfl, f1, K1⟩
set_option maxRecDepth 100000 in
set_option maxHeartbeats 4000000 in
theorem num_bd (b : Nat) (n m t : Int) (w : World) (hw : Fl b false w) (c1 : ¬ n < 1) (c2 : ¬ n > 6) (c3 : ¬ m < 0) (c4 : m > n) :
    Calls Tryz.prog 266 #[.pointer (some ⟨b, 0, none⟩), .int .i64 n, .int .i64 m, .int .i64 t] w fun e w' => e = .returned (.tuple #[.int .i64 0, .int .i64 0]) ∧ Fl b true w' ∧ Kept b w w' := by
  have hl := hw.lies
  go_enter Tryz.func266, Tryz.ntmps266
  go_wp2_with fail
  refine (Fail_any b false  _ hw).mono ?_
  rintro e w1 ⟨rfl, f1, k1⟩
  have K1 : Kept b w w1 := Kept.trans (Kept.refl b w) k1
  have z1 := K1.size
  clear k1
  go_wp2
  refine bodyPost_ret (v := .tuple #[.int .i64 0, .int .i64 0]) (by simp [results, Tryz.results266, go_sem]) rfl ?_
  exact ⟨rfl, f1, K1⟩
set_option maxRecDepth 100000 in
set_option maxHeartbeats 4000000 in
theorem num_be (b : Nat) (n m t : Int) (w : World) (hw : Fl b false w) (c1 : ¬ n < 1) (c2 : ¬ n > 6) (c3 : ¬ m < 0) (c4 : ¬ m > n) (ht : cRight t = false) :
    Calls Tryz.prog 266 #[.pointer (some ⟨b, 0, none⟩), .int .i64 n, .int .i64 m, .int .i64 t] w fun e w' => e = .returned (.tuple #[.int .i64 0, .int .i64 0]) ∧ Fl b true w' ∧ Kept b w w' := by
  have hl := hw.lies
  go_enter Tryz.func266, Tryz.ntmps266
  go_wp2_with fail
  refine (cRight_any t _).mono ?_
  rintro e w1 ⟨rfl, k1⟩
  rw [ht]
  try dsimp only
  have K1 : Kept b w w1 := Kept.trans (Kept.refl b w) (Kept.of_below k1)
  have BF_1 : Fl b false w1 := hw.below k1
  have z1 := K1.size
  clear k1
  go_wp2_with fail
  refine (Fail_any b false  _ BF_1).mono ?_
  rintro e w2 ⟨rfl, f2, k2⟩
  have K2 : Kept b w w2 := Kept.trans K1 k2
  have z2 := K2.size
  clear K1 BF_1 k2
  go_wp2
  refine bodyPost_ret (v := .tuple #[.int .i64 0, .int .i64 0]) (by simp [results, Tryz.results266, go_sem]) rfl ?_
  exact ⟨rfl, f2, K2⟩
end Go.Proofs.YtoadcnhcfodkgaaGreatDoor
