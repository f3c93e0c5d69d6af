/-
  The walk of alidadelaw06.awake, for the seat Ytcnbcdnjogopdaa. (Made by mklaw06.py.)
-/
import Derived.Test.YtcnbcdnjogopdaaACode
import Derived.Test.YtcnbcdnjogopdaaMEqR
import Derived.Test.YtcnbcdnjogopdaaVPart
import Derived.Handy
import Derived.Deep.RegionHeld3
namespace Go.Proofs.Ytcnbcdnjogopdaa
open Go.RowKit

theorem flows_any (bad : Bool) (w : World) :
    Calls Try.prog 9 #[.bool bad] w fun e w' => e = .returned (.tuple #[.pointer (some ⟨w.heap.size, 0, none⟩), .pointer (some ⟨w.heap.size + 1, 0, none⟩)]) ∧ w' = (w.alloc (.cells #[.bool bad] 34)).alloc (.cells #[.bool bad] 35) := by
  go_enter Try.func9, Try.ntmps9
  go_wp2
  refine bodyPost_ret (v := .tuple #[.pointer (some ⟨w.heap.size, 0, none⟩), .pointer (some ⟨w.heap.size + 1, 0, none⟩)]) (by simp [results, Try.results9, go_sem]) rfl ?_
  exact ⟨rfl, rfl⟩
theorem awake_root0 : mRootS false (fun i_ => if i_ = 0 then 4398046511104 else if i_ = 6 then 2199023255552 else if i_ = 7 then 5497558138880 else 0) 2 = (updF (updF (updF (fun _ => 0) 0 2199023255552) 6 1099511627776) 7 2199023255552, false) := by kernel_rfl
theorem awake_root : aRootS false (fun i_ => if i_ = 0 then 4398046511104 else if i_ = 6 then 2199023255552 else if i_ = 7 then 5497558138880 else 0) 2 = ((fun i_ => if i_ = 0 then 2199023255552 else if i_ = 6 then 1099511627776 else if i_ = 7 then 2199023255552 else 0), false) := by
  rw [show aRootS false (fun i_ => if i_ = 0 then 4398046511104 else if i_ = 6 then 2199023255552 else if i_ = 7 then 5497558138880 else 0) 2 = mRootS false (fun i_ => if i_ = 0 then 4398046511104 else if i_ = 6 then 2199023255552 else if i_ = 7 then 5497558138880 else 0) 2 from aRoot_in false _ (k := 2) (by decide) (by decide), awake_root0]
  refine Prod.ext (funext fun k => ?_) rfl
  show updF (updF (updF (fun _ => 0) 0 2199023255552) 6 1099511627776) 7 2199023255552 k = if k = 0 then 2199023255552 else if k = 6 then 1099511627776 else if k = 7 then 2199023255552 else 0
  unfold updF
  by_cases h7 : k = 7
  · subst h7; rfl
  · rw [if_neg h7]
    by_cases h6 : k = 6
    · subst h6; rfl
    · rw [if_neg h6, if_neg h6, if_neg h7]
@[go_sem] theorem awake_eq (w : World) : (Op.equalIn 10000 25 (.agg (row 36 (fun i_ => if i_ = 0 then 2199023255552 else if i_ = 6 then 1099511627776 else if i_ = 7 then 2199023255552 else 0)).toArray) (.agg #[.int .i64 2199023255552, .int .i64 0, .int .i64 0, .int .i64 0, .int .i64 0, .int .i64 0, .int .i64 1099511627776, .int .i64 2199023255552, .int .i64 0, .int .i64 0, .int .i64 0, .int .i64 0, .int .i64 0, .int .i64 0, .int .i64 0, .int .i64 0, .int .i64 0, .int .i64 0, .int .i64 0, .int .i64 0, .int .i64 0, .int .i64 0, .int .i64 0, .int .i64 0, .int .i64 0, .int .i64 0, .int .i64 0, .int .i64 0, .int .i64 0, .int .i64 0, .int .i64 0, .int .i64 0, .int .i64 0, .int .i64 0, .int .i64 0, .int .i64 0])).run Try.prog w = .ok true w := by
  have h := eqMat_same (fun i_ => if i_ = 0 then 2199023255552 else if i_ = 6 then 1099511627776 else if i_ = 7 then 2199023255552 else 0) w
  exact h
set_option maxRecDepth 100000 in
set_option maxHeartbeats 4000000 in
theorem awake_any  (w : World) :
    Calls Try.prog 8 #[] w fun e w' => e = .returned (.bool true) ∧ Below w.heap.size w w' := by
  go_enter Try.func8, Try.ntmps8
  have y1_low : w.heap.size ≤ w.heap.size := (Below.refl w.heap.size w).size
  go_wp2_with fail
  refine (aRoot_any w.heap.size false (fun i_ => if i_ = 0 then 4398046511104 else if i_ = 6 then 2199023255552 else if i_ = 7 then 5497558138880 else 0) 2 _ (Fl_at _ _ _ _ (by simp))).mono ?_
  rintro e w1 ⟨rfl, f1, k1⟩
  rw [awake_root] at f1 ⊢
  dsimp only at f1 ⊢
  have K1 : Below w.heap.size w w1 := k1.on (bel_al (Below.refl w.heap.size w) _) (by omega)
  have z1 := f1.lies
  clear k1
  have y2_B0 : w.heap.size < w1.heap.size := f1.lies
  have y2_low : w.heap.size ≤ w1.heap.size := K1.size
  go_wp2_with (refine store_stop rfl (by kernel_rfl) ?_)
  refine Stop.mk (store_row (l' := row 36 (fun i_ => if i_ = 0 then 2199023255552 else if i_ = 6 then 1099511627776 else if i_ = 7 then 2199023255552 else 0)) rfl rfl rfl rfl (Arr_at _ _ (row 36 (fun _ => 0)) _ (by simp)) (by simp only [row_len]) (by rw [row_len]; kernel_rfl) (row_one _ _) ?_)
  intro w2 B1_2 o2
  have K2 : Below w.heap.size w w2 := bel_off (bel_al K1 _) o2 y2_low
  have B0_2 : Fl w.heap.size false w2 := (f1.alloc _).off o2 (Nat.ne_of_lt y2_B0)
  have z2_B1 := B1_2.lies
  have z2_B0 := B0_2.lies
  clear K1 f1 o2
  have c3_B0 := B0_2.cell
  go_wp2_with (refine row_load rfl rfl rfl B1_2 (by kernel_rfl) (by rw [row_len]; kernel_rfl) ?_)
  clear c3_B0
  go_ret
  exact ⟨rfl, K2⟩
end Go.Proofs.Ytcnbcdnjogopdaa
