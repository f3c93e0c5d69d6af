/-
  That the laws of stage 16 are awake, walked, for the seat Ytpceomcnknjiiaa. (Made by mkod2.py.)
-/
import Derived.Test.YtpceomcnknjiiaaJR
import Derived.Test.YtpceomcnknjiiaaJW
import Derived.Test.YtpceomcnknjiiaaOdBack
namespace Go.Proofs.Ytpceomcnknjiiaa
open Go.RowKit

theorem aw_ok : ordOk 5 1 z7 = true := by decide +kernel
theorem aw_w : ordW 5 1 z7 = (16, ⟨#[5, 1]⟩) := by
  unfold ordW
  rw [aw_ok]
  rfl
theorem in_z7 : In7 z7 := by
  intro p hp
  match p, hp with
  | 0, _ => decide
  | 1, _ => decide
  | 2, _ => decide
  | 3, _ => decide
  | 4, _ => decide
  | 5, _ => decide
  | 6, _ => decide
theorem aw_r : ordR 16 ⟨#[5, 1]⟩ = ((5, 1, z7), 0) := ord_back aw_ok in_z7
set_option maxHeartbeats 2000000 in
set_option maxRecDepth 100000 in
theorem awake_any (w : World) : Calls Try.prog 5 #[] w fun e w' => e = .returned (.bool true) ∧ Below w.heap.size w w' := by
  have hw := owrite_any 5 1 z7
  rw [aw_w, aw_ok] at hw
  have hr := oread_any 16 ⟨#[5, 1]⟩
  rw [aw_r] at hr
  unfold z7 at hw hr
  dsimp only at hw hr
  go_enter Try.func5, Try.ntmps5
  go_wp2_with fail
  refine (hw _).mono ?_
  rintro e w1 ⟨rfl, b1⟩
  go_wp2_with fail
  refine (hr _).mono ?_
  rintro e w2 ⟨rfl, b2⟩
  have b12 := bel_then (bel_al b1 _) b2
  have z2 := b12.size
  have A := (Arr_at w1 w1.heap.size [.int .i64 16, .string ⟨#[5, 1]⟩] 28 rfl).below b2
  have c0 : w2.cell? ⟨w1.heap.size, 0, none⟩ = some (.int .i64 16) := A.c 0 (of_decide_eq_true rfl)
  have c1 : w2.cell? ⟨w1.heap.size, 1, none⟩ = some (.string ⟨#[5, 1]⟩) := A.c 1 (of_decide_eq_true rfl)
  have az := A.lies
  go_wp2_with (with_reducible refine post_stop ?_)
  exact ⟨bodyPost_ret (v := .bool true) (by simp [results, Try.results5, go_sem]) rfl ⟨rfl, bel_al b12 _⟩⟩
end Go.Proofs.Ytpceomcnknjiiaa
