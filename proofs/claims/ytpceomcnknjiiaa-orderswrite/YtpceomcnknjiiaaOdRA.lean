/-
  Orders: the reference's Write, walked, for the seat Ytpceomcnknjiiaa. (Made by mkod.py.)
-/
import Derived.Test.YtpceomcnknjiiaaJW
import Derived.Test.YtpceomcnknjiiaaORRight
namespace Go.Proofs.Ytpceomcnknjiiaa
open Go.RowKit

set_option maxHeartbeats 4000000 in
set_option maxRecDepth 100000 in
theorem rorder_lo (q c : Int) (o : V7) (w : World) (h : q < 0) :
    Calls Try.prog 7 #[.agg #[.int .i64 q, .int .i64 c, .int .i64 o.1, .int .i64 o.2.1, .int .i64 o.2.2.1, .int .i64 o.2.2.2.1, .int .i64 o.2.2.2.2.1, .int .i64 o.2.2.2.2.2.1, .int .i64 o.2.2.2.2.2.2]] w fun e w' => e = .returned (.tuple #[.agg #[.int .i64 0, .string ⟨#[]⟩], .bool false]) ∧ Below w.heap.size w w' := by
  go_enter Try.func7, Try.ntmps7
  go_wp2_with (with_reducible refine post_stop ?_)
  exact ⟨bodyPost_ret (v := .tuple #[.agg #[.int .i64 0, .string ⟨#[]⟩], .bool false]) (by simp [results_cell_tmp Try.results7, asAddr, go_sem]) rfl ⟨rfl, bel_al (bel_al (Below.refl _ _) _) _⟩⟩
set_option maxHeartbeats 4000000 in
set_option maxRecDepth 100000 in
theorem rorder_hi (q c : Int) (o : V7) (w : World) (h : 255 < q) :
    Calls Try.prog 7 #[.agg #[.int .i64 q, .int .i64 c, .int .i64 o.1, .int .i64 o.2.1, .int .i64 o.2.2.1, .int .i64 o.2.2.2.1, .int .i64 o.2.2.2.2.1, .int .i64 o.2.2.2.2.2.1, .int .i64 o.2.2.2.2.2.2]] w fun e w' => e = .returned (.tuple #[.agg #[.int .i64 0, .string ⟨#[]⟩], .bool false]) ∧ Below w.heap.size w w' := by
  go_enter Try.func7, Try.ntmps7
  go_wp2_with (with_reducible refine post_stop ?_)
  exact ⟨bodyPost_ret (v := .tuple #[.agg #[.int .i64 0, .string ⟨#[]⟩], .bool false]) (by simp [results_cell_tmp Try.results7, asAddr, go_sem]) rfl ⟨rfl, bel_al (bel_al (Below.refl _ _) _) _⟩⟩
set_option maxHeartbeats 4000000 in
set_option maxRecDepth 100000 in
theorem rorder_cl (q c : Int) (o : V7) (w : World) (h0 : 0 ≤ q) (h1 : q ≤ 255) (h : c < 1) :
    Calls Try.prog 7 #[.agg #[.int .i64 q, .int .i64 c, .int .i64 o.1, .int .i64 o.2.1, .int .i64 o.2.2.1, .int .i64 o.2.2.2.1, .int .i64 o.2.2.2.2.1, .int .i64 o.2.2.2.2.2.1, .int .i64 o.2.2.2.2.2.2]] w fun e w' => e = .returned (.tuple #[.agg #[.int .i64 0, .string ⟨#[]⟩], .bool false]) ∧ Below w.heap.size w w' := by
  go_enter Try.func7, Try.ntmps7
  go_wp2_with (with_reducible refine post_stop ?_)
  exact ⟨bodyPost_ret (v := .tuple #[.agg #[.int .i64 0, .string ⟨#[]⟩], .bool false]) (by simp [results_cell_tmp Try.results7, asAddr, go_sem]) rfl ⟨rfl, bel_al (bel_al (Below.refl _ _) _) _⟩⟩
set_option maxHeartbeats 4000000 in
set_option maxRecDepth 100000 in
theorem rorder_ch (q c : Int) (o : V7) (w : World) (h0 : 0 ≤ q) (h1 : q ≤ 255) (h2 : 1 ≤ c) (h : 4 < c) :
    Calls Try.prog 7 #[.agg #[.int .i64 q, .int .i64 c, .int .i64 o.1, .int .i64 o.2.1, .int .i64 o.2.2.1, .int .i64 o.2.2.2.1, .int .i64 o.2.2.2.2.1, .int .i64 o.2.2.2.2.2.1, .int .i64 o.2.2.2.2.2.2]] w fun e w' => e = .returned (.tuple #[.agg #[.int .i64 0, .string ⟨#[]⟩], .bool false]) ∧ Below w.heap.size w w' := by
  go_enter Try.func7, Try.ntmps7
  go_wp2_with (with_reducible refine post_stop ?_)
  exact ⟨bodyPost_ret (v := .tuple #[.agg #[.int .i64 0, .string ⟨#[]⟩], .bool false]) (by simp [results_cell_tmp Try.results7, asAddr, go_sem]) rfl ⟨rfl, bel_al (bel_al (Below.refl _ _) _) _⟩⟩
set_option maxHeartbeats 4000000 in
set_option maxRecDepth 100000 in
theorem rorder_short (q c : Int) (o : V7) (w : World) (h0 : 0 ≤ q) (h1 : q ≤ 255) (hc0 : 1 ≤ c) (hc1 : c ≤ 4) (h3 : c ≠ 3) :
    Calls Try.prog 7 #[.agg #[.int .i64 q, .int .i64 c, .int .i64 o.1, .int .i64 o.2.1, .int .i64 o.2.2.1, .int .i64 o.2.2.2.1, .int .i64 o.2.2.2.2.1, .int .i64 o.2.2.2.2.2.1, .int .i64 o.2.2.2.2.2.2]] w fun e w' => e = .returned (.tuple #[.agg #[.int .i64 16, .string (strOf (ordL q c o))], .bool true]) ∧ Below w.heap.size w w' := by
  have HL : Hid (ordL q c o = [q, c]) := by show _ = _; unfold ordL; rw [if_neg h3]
  have O0 := bytes2 ((w.alloc (.cells #[.int .i64 q, .int .i64 c, .int .i64 o.1, .int .i64 o.2.1, .int .i64 o.2.2.1, .int .i64 o.2.2.2.1, .int .i64 o.2.2.2.2.1, .int .i64 o.2.2.2.2.2.1, .int .i64 o.2.2.2.2.2.2] 25)).alloc (.cells #[.int .i64 0, .string ⟨#[]⟩] 28)) (w.heap.size + 2) (w.heap.size + 1 + 1) q c (by simp) (by simp)
  have hcv := conv_any O0 (by simp) (fun b hb => by simp only [List.mem_cons, List.not_mem_nil, or_false] at hb; rcases hb with rfl | rfl <;> omega)
  clear O0
  have w1 : IntKind.u8.wrap q = q := by rw [IntKind.wrap_u8]; omega
  have w2 : IntKind.u8.wrap c = c := by rw [IntKind.wrap_u8]; omega
  rw [HL.out]
  generalize strOf [q, c] = S at *
  go_enter Try.func7, Try.ntmps7
  go_wp2_with (with_reducible refine post_stop ?_)
  exact ⟨bodyPost_ret (v := .tuple #[.agg #[.int .i64 16, .string S], .bool true]) (by simp [results_cell_tmp Try.results7, asAddr, go_sem]) rfl ⟨rfl, bel_al (bel_al (bel_al (Below.refl _ _) _) _) _⟩⟩
set_option maxHeartbeats 4000000 in
set_option maxRecDepth 100000 in
theorem rorder_not (q c : Int) (o : V7) (w : World) (h0 : 0 ≤ q) (h1 : q ≤ 255) (h3 : c = 3) (hR : oRightC o = false) :
    Calls Try.prog 7 #[.agg #[.int .i64 q, .int .i64 c, .int .i64 o.1, .int .i64 o.2.1, .int .i64 o.2.2.1, .int .i64 o.2.2.2.1, .int .i64 o.2.2.2.2.1, .int .i64 o.2.2.2.2.2.1, .int .i64 o.2.2.2.2.2.2]] w fun e w' => e = .returned (.tuple #[.agg #[.int .i64 0, .string ⟨#[]⟩], .bool false]) ∧ Below w.heap.size w w' := by
  subst h3
  have hr := pRight_any o
  rw [hR] at hr
  have w1 : IntKind.u8.wrap q = q := by rw [IntKind.wrap_u8]; omega
  go_enter Try.func7, Try.ntmps7
  go_wp2_with fail
  refine (hr _).mono ?_
  rintro e W1 ⟨rfl, b1⟩
  have L1 := bel_then (bel_al (bel_al (bel_al (Below.refl _ w) _) _) _) b1
  have A1 := (((Arr_at w w.heap.size [.int .i64 q, .int .i64 3, .int .i64 o.1, .int .i64 o.2.1, .int .i64 o.2.2.1, .int .i64 o.2.2.2.1, .int .i64 o.2.2.2.2.1, .int .i64 o.2.2.2.2.2.1, .int .i64 o.2.2.2.2.2.2] 25 rfl).alloc (.cells #[.int .i64 0, .string ⟨#[]⟩] 28)).alloc (.cells #[.int .u8 q, .int .u8 3] 5)).below b1
  have R1 := ((Arr_at (w.alloc (.cells #[.int .i64 q, .int .i64 3, .int .i64 o.1, .int .i64 o.2.1, .int .i64 o.2.2.1, .int .i64 o.2.2.2.1, .int .i64 o.2.2.2.2.1, .int .i64 o.2.2.2.2.2.1, .int .i64 o.2.2.2.2.2.2] 25)) (w.heap.size + 1) [.int .i64 0, .string ⟨#[]⟩] 28 (by simp)).alloc (.cells #[.int .u8 q, .int .u8 3] 5)).below b1
  have c0 : W1.cell? ⟨w.heap.size + 1, 0, none⟩ = some (.int .i64 0) := R1.c 0 (of_decide_eq_true rfl)
  have c1 : W1.cell? ⟨w.heap.size + 1, 1, none⟩ = some (.string ⟨#[]⟩) := R1.c 1 (of_decide_eq_true rfl)
  have f0 := R1.f 0 (of_decide_eq_true rfl)
  have f1 := R1.f 1 (of_decide_eq_true rfl)
  clear A1 b1
  go_wp2_with (with_reducible refine post_stop ?_)
  have d0 := Arr.c ((R1.put 0 (of_decide_eq_true rfl) (.int .i64 0) [.int .i64 0, .string ⟨#[]⟩] rfl).put 1 (of_decide_eq_true rfl) (.string ⟨#[]⟩) [.int .i64 0, .string ⟨#[]⟩] rfl) 0 (of_decide_eq_true rfl)
  have d1 := Arr.c ((R1.put 0 (of_decide_eq_true rfl) (.int .i64 0) [.int .i64 0, .string ⟨#[]⟩] rfl).put 1 (of_decide_eq_true rfl) (.string ⟨#[]⟩) [.int .i64 0, .string ⟨#[]⟩] rfl) 1 (of_decide_eq_true rfl)
  simp only [List.getElem_cons_zero, List.getElem_cons_succ] at d0 d1
  exact ⟨bodyPost_ret (v := .tuple #[.agg #[.int .i64 0, .string ⟨#[]⟩], .bool false]) (by simp [results_cell_tmp Try.results7, asAddr, go_sem, d0, d1]) rfl ⟨rfl, bel_new (bel_new L1 _ _ (by omega) _) _ _ (by omega) _⟩⟩
end Go.Proofs.Ytpceomcnknjiiaa
