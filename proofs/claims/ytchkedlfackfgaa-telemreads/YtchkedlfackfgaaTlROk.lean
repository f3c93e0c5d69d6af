/-
  Telem: which may be told, the document, walked, for the seat Ytchkedlfackfgaa. (Made by mktl.py.)
-/
import Derived.Test.YtchkedlfackfgaaTlLeaf
namespace Go.Proofs.Ytchkedlfackfgaa
open Go.RowKit

set_option maxHeartbeats 2000000 in
set_option maxRecDepth 100000 in
theorem rtRight_any (T : Tl) (w : World) : Calls Try.prog 16 #[.agg #[.int .i64 T.t, .int .i64 T.m, .int .i64 T.fa, .int .i64 T.ak, .int .i64 T.er, .int .i64 T.rj, .int .i64 T.q0, .int .i64 T.q1, .int .i64 T.q2, .int .i64 T.q3, .int .i64 T.d0, .int .i64 T.d1, .int .i64 T.d2]] w fun e w' => e = .returned (.bool (tlOk T)) ∧ Below w.heap.size w w' := by
  have HO : Hid (tlOk T = (cRight T.t && inR T.m 0 3 && inR T.fa 0 15 && inR T.ak 0 255 && inR T.er 0 255 && inR T.rj 0 65535 && inR T.q0 (-32768) 32767 && inR T.q1 (-32768) 32767 && inR T.q2 (-32768) 32767 && inR T.q3 (-32768) 32767 && inR T.d0 (-32768) 32767 && inR T.d1 (-32768) 32767 && inR T.d2 (-32768) 32767)) := rfl
  generalize tlOk T = ok at HO ⊢
  have hct := fun W => dRight_any T.t W
  generalize cRight T.t = xt at hct HO
  have hm := fun W => rin_any T.m 0 3 W
  generalize inR T.m 0 3 = xm at hm HO
  have hfa := fun W => rin_any T.fa 0 15 W
  generalize inR T.fa 0 15 = xfa at hfa HO
  have hak := fun W => rin_any T.ak 0 255 W
  generalize inR T.ak 0 255 = xak at hak HO
  have her := fun W => rin_any T.er 0 255 W
  generalize inR T.er 0 255 = xer at her HO
  have hrj := fun W => rin_any T.rj 0 65535 W
  generalize inR T.rj 0 65535 = xrj at hrj HO
  have hq0 := fun W => rin_any T.q0 (-32768) 32767 W
  generalize inR T.q0 (-32768) 32767 = xq0 at hq0 HO
  have hq1 := fun W => rin_any T.q1 (-32768) 32767 W
  generalize inR T.q1 (-32768) 32767 = xq1 at hq1 HO
  have hq2 := fun W => rin_any T.q2 (-32768) 32767 W
  generalize inR T.q2 (-32768) 32767 = xq2 at hq2 HO
  have hq3 := fun W => rin_any T.q3 (-32768) 32767 W
  generalize inR T.q3 (-32768) 32767 = xq3 at hq3 HO
  have hd0 := fun W => rin_any T.d0 (-32768) 32767 W
  generalize inR T.d0 (-32768) 32767 = xd0 at hd0 HO
  have hd1 := fun W => rin_any T.d1 (-32768) 32767 W
  generalize inR T.d1 (-32768) 32767 = xd1 at hd1 HO
  have hd2 := fun W => rin_any T.d2 (-32768) 32767 W
  generalize inR T.d2 (-32768) 32767 = xd2 at hd2 HO
  have A := Arr_at w w.heap.size [.int .i64 T.t, .int .i64 T.m, .int .i64 T.fa, .int .i64 T.ak, .int .i64 T.er, .int .i64 T.rj, .int .i64 T.q0, .int .i64 T.q1, .int .i64 T.q2, .int .i64 T.q3, .int .i64 T.d0, .int .i64 T.d1, .int .i64 T.d2] 25 rfl
  clear A
  go_enter Try.func16, Try.ntmps16
  have A := Arr_at w w.heap.size [.int .i64 T.t, .int .i64 T.m, .int .i64 T.fa, .int .i64 T.ak, .int .i64 T.er, .int .i64 T.rj, .int .i64 T.q0, .int .i64 T.q1, .int .i64 T.q2, .int .i64 T.q3, .int .i64 T.d0, .int .i64 T.d1, .int .i64 T.d2] 25 rfl
  go_wp2_with fail
  refine (hct _).mono ?_
  rintro e X ⟨rfl, bk⟩
  have A := A.below bk
  have L := bel_then (bel_al (Below.refl _ _) _) bk
  clear bk
  have az := A.lies
  have a1 : X.cell? ⟨w.heap.size, 1, none⟩ = some (.int .i64 T.m) := A.c 1 (of_decide_eq_true rfl)
  have a2 : X.cell? ⟨w.heap.size, 2, none⟩ = some (.int .i64 T.fa) := A.c 2 (of_decide_eq_true rfl)
  have a3 : X.cell? ⟨w.heap.size, 3, none⟩ = some (.int .i64 T.ak) := A.c 3 (of_decide_eq_true rfl)
  have a4 : X.cell? ⟨w.heap.size, 4, none⟩ = some (.int .i64 T.er) := A.c 4 (of_decide_eq_true rfl)
  have a5 : X.cell? ⟨w.heap.size, 5, none⟩ = some (.int .i64 T.rj) := A.c 5 (of_decide_eq_true rfl)
  have a6 : X.cell? ⟨w.heap.size, 6, none⟩ = some (.int .i64 T.q0) := A.c 6 (of_decide_eq_true rfl)
  have a7 : X.cell? ⟨w.heap.size, 7, none⟩ = some (.int .i64 T.q1) := A.c 7 (of_decide_eq_true rfl)
  have a8 : X.cell? ⟨w.heap.size, 8, none⟩ = some (.int .i64 T.q2) := A.c 8 (of_decide_eq_true rfl)
  have a9 : X.cell? ⟨w.heap.size, 9, none⟩ = some (.int .i64 T.q3) := A.c 9 (of_decide_eq_true rfl)
  have a10 : X.cell? ⟨w.heap.size, 10, none⟩ = some (.int .i64 T.d0) := A.c 10 (of_decide_eq_true rfl)
  have a11 : X.cell? ⟨w.heap.size, 11, none⟩ = some (.int .i64 T.d1) := A.c 11 (of_decide_eq_true rfl)
  have a12 : X.cell? ⟨w.heap.size, 12, none⟩ = some (.int .i64 T.d2) := A.c 12 (of_decide_eq_true rfl)
  cases xt
  case false =>
    go_wp2_with fail
    refine wp_loop_rounds 5 ?_
    rw [rounds_succ]
    go_wp2_with fail
    rw [rounds_succ]
    go_wp2_with fail
    rw [rounds_succ]
    go_wp2_with fail
    rw [rounds_succ]
    go_wp2_with fail
    rw [rounds_succ]
    go_wp2_with fail
    refine wp_loop_rounds 4 ?_
    rw [rounds_succ]
    go_wp2_with fail
    rw [rounds_succ]
    go_wp2_with fail
    rw [rounds_succ]
    go_wp2_with fail
    rw [rounds_succ]
    go_wp2_with (with_reducible refine post_stop ?_)
    exact ⟨bodyPost_ret (v := .bool false) (by simp [results, Try.results16, go_sem]) rfl ⟨by rw [HO.out]; simp, L⟩⟩
  go_wp2_with fail
  refine (hm _).mono ?_
  rintro e Y ⟨rfl, rfl⟩
  cases xm
  case false =>
    go_wp2_with fail
    refine wp_loop_rounds 5 ?_
    rw [rounds_succ]
    go_wp2_with fail
    rw [rounds_succ]
    go_wp2_with fail
    rw [rounds_succ]
    go_wp2_with fail
    rw [rounds_succ]
    go_wp2_with fail
    rw [rounds_succ]
    go_wp2_with fail
    refine wp_loop_rounds 4 ?_
    rw [rounds_succ]
    go_wp2_with fail
    rw [rounds_succ]
    go_wp2_with fail
    rw [rounds_succ]
    go_wp2_with fail
    rw [rounds_succ]
    go_wp2_with (with_reducible refine post_stop ?_)
    exact ⟨bodyPost_ret (v := .bool false) (by simp [results, Try.results16, go_sem]) rfl ⟨by rw [HO.out]; simp, L⟩⟩
  go_wp2_with fail
  refine (hfa _).mono ?_
  rintro e Y ⟨rfl, rfl⟩
  cases xfa
  case false =>
    go_wp2_with fail
    refine wp_loop_rounds 5 ?_
    rw [rounds_succ]
    go_wp2_with fail
    rw [rounds_succ]
    go_wp2_with fail
    rw [rounds_succ]
    go_wp2_with fail
    rw [rounds_succ]
    go_wp2_with fail
    rw [rounds_succ]
    go_wp2_with fail
    refine wp_loop_rounds 4 ?_
    rw [rounds_succ]
    go_wp2_with fail
    rw [rounds_succ]
    go_wp2_with fail
    rw [rounds_succ]
    go_wp2_with fail
    rw [rounds_succ]
    go_wp2_with (with_reducible refine post_stop ?_)
    exact ⟨bodyPost_ret (v := .bool false) (by simp [results, Try.results16, go_sem]) rfl ⟨by rw [HO.out]; simp, L⟩⟩
  go_wp2_with fail
  refine (hak _).mono ?_
  rintro e Y ⟨rfl, rfl⟩
  cases xak
  case false =>
    go_wp2_with fail
    refine wp_loop_rounds 5 ?_
    rw [rounds_succ]
    go_wp2_with fail
    rw [rounds_succ]
    go_wp2_with fail
    rw [rounds_succ]
    go_wp2_with fail
    rw [rounds_succ]
    go_wp2_with fail
    rw [rounds_succ]
    go_wp2_with fail
    refine wp_loop_rounds 4 ?_
    rw [rounds_succ]
    go_wp2_with fail
    rw [rounds_succ]
    go_wp2_with fail
    rw [rounds_succ]
    go_wp2_with fail
    rw [rounds_succ]
    go_wp2_with (with_reducible refine post_stop ?_)
    exact ⟨bodyPost_ret (v := .bool false) (by simp [results, Try.results16, go_sem]) rfl ⟨by rw [HO.out]; simp, L⟩⟩
  go_wp2_with fail
  refine (her _).mono ?_
  rintro e Y ⟨rfl, rfl⟩
  cases xer
  case false =>
    go_wp2_with fail
    refine wp_loop_rounds 5 ?_
    rw [rounds_succ]
    go_wp2_with fail
    rw [rounds_succ]
    go_wp2_with fail
    rw [rounds_succ]
    go_wp2_with fail
    rw [rounds_succ]
    go_wp2_with fail
    rw [rounds_succ]
    go_wp2_with fail
    refine wp_loop_rounds 4 ?_
    rw [rounds_succ]
    go_wp2_with fail
    rw [rounds_succ]
    go_wp2_with fail
    rw [rounds_succ]
    go_wp2_with fail
    rw [rounds_succ]
    go_wp2_with (with_reducible refine post_stop ?_)
    exact ⟨bodyPost_ret (v := .bool false) (by simp [results, Try.results16, go_sem]) rfl ⟨by rw [HO.out]; simp, L⟩⟩
  go_wp2_with fail
  refine (hrj _).mono ?_
  rintro e Y ⟨rfl, rfl⟩
  cases xrj
  case false =>
    go_wp2_with fail
    refine wp_loop_rounds 5 ?_
    rw [rounds_succ]
    go_wp2_with fail
    rw [rounds_succ]
    go_wp2_with fail
    rw [rounds_succ]
    go_wp2_with fail
    rw [rounds_succ]
    go_wp2_with fail
    rw [rounds_succ]
    go_wp2_with fail
    refine wp_loop_rounds 4 ?_
    rw [rounds_succ]
    go_wp2_with fail
    rw [rounds_succ]
    go_wp2_with fail
    rw [rounds_succ]
    go_wp2_with fail
    rw [rounds_succ]
    go_wp2_with (with_reducible refine post_stop ?_)
    exact ⟨bodyPost_ret (v := .bool false) (by simp [results, Try.results16, go_sem]) rfl ⟨by rw [HO.out]; simp, L⟩⟩
  go_wp2_with fail
  refine wp_loop_rounds 5 ?_
  rw [rounds_succ]
  go_wp2_with fail
  refine (hq0 _).mono ?_
  rintro e X ⟨rfl, rfl⟩
  cases xq0
  case false =>
    go_wp2_with fail
    rw [rounds_succ]
    go_wp2_with fail
    rw [rounds_succ]
    go_wp2_with fail
    rw [rounds_succ]
    go_wp2_with fail
    rw [rounds_succ]
    go_wp2_with fail
    refine wp_loop_rounds 4 ?_
    rw [rounds_succ]
    go_wp2_with fail
    rw [rounds_succ]
    go_wp2_with fail
    rw [rounds_succ]
    go_wp2_with fail
    rw [rounds_succ]
    go_wp2_with (with_reducible refine post_stop ?_)
    exact ⟨bodyPost_ret (v := .bool false) (by simp [results, Try.results16, go_sem]) rfl ⟨by rw [HO.out]; simp, L⟩⟩
  go_wp2_with fail
  rw [rounds_succ]
  go_wp2_with fail
  refine (hq1 _).mono ?_
  rintro e X ⟨rfl, rfl⟩
  cases xq1
  case false =>
    go_wp2_with fail
    rw [rounds_succ]
    go_wp2_with fail
    rw [rounds_succ]
    go_wp2_with fail
    rw [rounds_succ]
    go_wp2_with fail
    refine wp_loop_rounds 4 ?_
    rw [rounds_succ]
    go_wp2_with fail
    rw [rounds_succ]
    go_wp2_with fail
    rw [rounds_succ]
    go_wp2_with fail
    rw [rounds_succ]
    go_wp2_with (with_reducible refine post_stop ?_)
    exact ⟨bodyPost_ret (v := .bool false) (by simp [results, Try.results16, go_sem]) rfl ⟨by rw [HO.out]; simp, L⟩⟩
  go_wp2_with fail
  rw [rounds_succ]
  go_wp2_with fail
  refine (hq2 _).mono ?_
  rintro e X ⟨rfl, rfl⟩
  cases xq2
  case false =>
    go_wp2_with fail
    rw [rounds_succ]
    go_wp2_with fail
    rw [rounds_succ]
    go_wp2_with fail
    refine wp_loop_rounds 4 ?_
    rw [rounds_succ]
    go_wp2_with fail
    rw [rounds_succ]
    go_wp2_with fail
    rw [rounds_succ]
    go_wp2_with fail
    rw [rounds_succ]
    go_wp2_with (with_reducible refine post_stop ?_)
    exact ⟨bodyPost_ret (v := .bool false) (by simp [results, Try.results16, go_sem]) rfl ⟨by rw [HO.out]; simp, L⟩⟩
  go_wp2_with fail
  rw [rounds_succ]
  go_wp2_with fail
  refine (hq3 _).mono ?_
  rintro e X ⟨rfl, rfl⟩
  cases xq3
  case false =>
    go_wp2_with fail
    rw [rounds_succ]
    go_wp2_with fail
    refine wp_loop_rounds 4 ?_
    rw [rounds_succ]
    go_wp2_with fail
    rw [rounds_succ]
    go_wp2_with fail
    rw [rounds_succ]
    go_wp2_with fail
    rw [rounds_succ]
    go_wp2_with (with_reducible refine post_stop ?_)
    exact ⟨bodyPost_ret (v := .bool false) (by simp [results, Try.results16, go_sem]) rfl ⟨by rw [HO.out]; simp, L⟩⟩
  go_wp2_with fail
  rw [rounds_succ]
  go_wp2_with fail
  refine wp_loop_rounds 4 ?_
  rw [rounds_succ]
  go_wp2_with fail
  refine (hd0 _).mono ?_
  rintro e X ⟨rfl, rfl⟩
  cases xd0
  case false =>
    go_wp2_with fail
    rw [rounds_succ]
    go_wp2_with fail
    rw [rounds_succ]
    go_wp2_with fail
    rw [rounds_succ]
    go_wp2_with (with_reducible refine post_stop ?_)
    exact ⟨bodyPost_ret (v := .bool false) (by simp [results, Try.results16, go_sem]) rfl ⟨by rw [HO.out]; simp, L⟩⟩
  go_wp2_with fail
  rw [rounds_succ]
  go_wp2_with fail
  refine (hd1 _).mono ?_
  rintro e X ⟨rfl, rfl⟩
  cases xd1
  case false =>
    go_wp2_with fail
    rw [rounds_succ]
    go_wp2_with fail
    rw [rounds_succ]
    go_wp2_with (with_reducible refine post_stop ?_)
    exact ⟨bodyPost_ret (v := .bool false) (by simp [results, Try.results16, go_sem]) rfl ⟨by rw [HO.out]; simp, L⟩⟩
  go_wp2_with fail
  rw [rounds_succ]
  go_wp2_with fail
  refine (hd2 _).mono ?_
  rintro e X ⟨rfl, rfl⟩
  cases xd2
  case false =>
    go_wp2_with fail
    rw [rounds_succ]
    go_wp2_with (with_reducible refine post_stop ?_)
    exact ⟨bodyPost_ret (v := .bool false) (by simp [results, Try.results16, go_sem]) rfl ⟨by rw [HO.out]; simp, L⟩⟩
  go_wp2_with fail
  rw [rounds_succ]
  go_wp2_with (with_reducible refine post_stop ?_)
  exact ⟨bodyPost_ret (v := .bool true) (by simp [results, Try.results16, go_sem]) rfl ⟨by rw [HO.out]; simp, L⟩⟩
end Go.Proofs.Ytchkedlfackfgaa
