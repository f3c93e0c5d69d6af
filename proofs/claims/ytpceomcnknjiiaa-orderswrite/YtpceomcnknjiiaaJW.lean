/-
  Orders: Write, walked, for the seat Ytpceomcnknjiiaa. (Made by mkod.py.)
  Orders: Write, walked, for the seat Ytpceomcnknjiiaa. (Made by mkod.py.)
  Orders: Write, walked, for the seat Ytpceomcnknjiiaa. (Made by mkod.py.)
-/
import Derived.Test.YtpceomcnknjiiaaJO
import Derived.Test.YtpceomcnknjiiaaORight
namespace Go.Proofs.Ytpceomcnknjiiaa
open Go.RowKit

theorem bytes2 (w : World) (B k : Nat) (a b : Int) (hk : k = w.heap.size) (h : B ≤ w.heap.size) : Bytes B (w.alloc (.cells #[.int .u8 a, .int .u8 b] 5)) (.slice (some ⟨k, 0, none⟩) 2 2) [a, b] := by
  subst hk
  exact World.ownsRow_lit w #[.int .u8 a, .int .u8 b] 2 h (by unfold maxLen; omega) rfl
set_option maxHeartbeats 4000000 in
set_option maxRecDepth 100000 in
theorem owrite_lo (q c : Int) (o : V7) (w : World) (h : q < 0) :
    Calls Try.prog 6 #[.agg #[.int .i64 q, .int .i64 c, .int .i64 o.1, .int .i64 o.2.1, .int .i64 o.2.2.1, .int .i64 o.2.2.2.1, .int .i64 o.2.2.2.2.1, .int .i64 o.2.2.2.2.2.1, .int .i64 o.2.2.2.2.2.2]] w fun e w' => e = .returned (.tuple #[.agg #[.int .i64 0, .string ⟨#[]⟩], .bool false]) ∧ Below w.heap.size w w' := by
  go_enter Try.func6, Try.ntmps6
  go_wp2_with (with_reducible refine post_stop ?_)
  exact ⟨bodyPost_ret (v := .tuple #[.agg #[.int .i64 0, .string ⟨#[]⟩], .bool false]) (by simp [results_cell_tmp Try.results6, asAddr, go_sem]) rfl ⟨rfl, bel_al (bel_al (Below.refl _ _) _) _⟩⟩
set_option maxHeartbeats 4000000 in
set_option maxRecDepth 100000 in
theorem owrite_hi (q c : Int) (o : V7) (w : World) (h : 255 < q) :
    Calls Try.prog 6 #[.agg #[.int .i64 q, .int .i64 c, .int .i64 o.1, .int .i64 o.2.1, .int .i64 o.2.2.1, .int .i64 o.2.2.2.1, .int .i64 o.2.2.2.2.1, .int .i64 o.2.2.2.2.2.1, .int .i64 o.2.2.2.2.2.2]] w fun e w' => e = .returned (.tuple #[.agg #[.int .i64 0, .string ⟨#[]⟩], .bool false]) ∧ Below w.heap.size w w' := by
  go_enter Try.func6, Try.ntmps6
  go_wp2_with (with_reducible refine post_stop ?_)
  exact ⟨bodyPost_ret (v := .tuple #[.agg #[.int .i64 0, .string ⟨#[]⟩], .bool false]) (by simp [results_cell_tmp Try.results6, asAddr, go_sem]) rfl ⟨rfl, bel_al (bel_al (Below.refl _ _) _) _⟩⟩
set_option maxHeartbeats 4000000 in
set_option maxRecDepth 100000 in
theorem owrite_code (q c : Int) (o : V7) (w : World) (h0 : 0 ≤ q) (h1 : q ≤ 255) (h : sizeS c = 0) :
    Calls Try.prog 6 #[.agg #[.int .i64 q, .int .i64 c, .int .i64 o.1, .int .i64 o.2.1, .int .i64 o.2.2.1, .int .i64 o.2.2.2.1, .int .i64 o.2.2.2.2.1, .int .i64 o.2.2.2.2.2.1, .int .i64 o.2.2.2.2.2.2]] w fun e w' => e = .returned (.tuple #[.agg #[.int .i64 0, .string ⟨#[]⟩], .bool false]) ∧ Below w.heap.size w w' := by
  have hs := sizeOf_any c
  rw [h] at hs
  go_enter Try.func6, Try.ntmps6
  go_wp2_with (go_at_call 9; refine (hs _).mono ?_; rintro e X ⟨rfl, rfl⟩)
  skip
  go_wp2_with (with_reducible refine post_stop ?_)
  exact ⟨bodyPost_ret (v := .tuple #[.agg #[.int .i64 0, .string ⟨#[]⟩], .bool false]) (by simp [results_cell_tmp Try.results6, asAddr, go_sem]) rfl ⟨rfl, bel_al (bel_al (Below.refl _ _) _) _⟩⟩
set_option maxHeartbeats 4000000 in
set_option maxRecDepth 100000 in
theorem owrite_short (q c : Int) (o : V7) (w : World) (h0 : 0 ≤ q) (h1 : q ≤ 255) (hc0 : 1 ≤ c) (hc1 : c ≤ 4) (h3 : c ≠ 3) :
    Calls Try.prog 6 #[.agg #[.int .i64 q, .int .i64 c, .int .i64 o.1, .int .i64 o.2.1, .int .i64 o.2.2.1, .int .i64 o.2.2.2.1, .int .i64 o.2.2.2.2.1, .int .i64 o.2.2.2.2.2.1, .int .i64 o.2.2.2.2.2.2]] w fun e w' => e = .returned (.tuple #[.agg #[.int .i64 16, .string (strOf (ordL q c o))], .bool true]) ∧ Below w.heap.size w w' := by
  have hs := sizeOf_any c
  rw [show sizeS c = 2 by unfold sizeS; rw [if_pos (by omega)]] at hs
  have HL : Hid (ordL q c o = [q, c]) := by show _ = _; unfold ordL; rw [if_neg h3]
  have O0 := bytes2 ((w.alloc (.cells #[.int .i64 q, .int .i64 c, .int .i64 o.1, .int .i64 o.2.1, .int .i64 o.2.2.1, .int .i64 o.2.2.2.1, .int .i64 o.2.2.2.2.1, .int .i64 o.2.2.2.2.2.1, .int .i64 o.2.2.2.2.2.2] 25)).alloc (.cells #[.int .i64 0, .string ⟨#[]⟩] 28)) (w.heap.size + 2) (w.heap.size + 1 + 1) q c (by simp) (by simp)
  have hcv := conv_any O0 (by simp) (fun b hb => by simp only [List.mem_cons, List.not_mem_nil, or_false] at hb; rcases hb with rfl | rfl <;> omega)
  clear O0
  have w1 : IntKind.u8.wrap q = q := by rw [IntKind.wrap_u8]; omega
  have w2 : IntKind.u8.wrap c = c := by rw [IntKind.wrap_u8]; omega
  rw [HL.out]
  generalize strOf [q, c] = S at *
  go_enter Try.func6, Try.ntmps6
  go_wp2_with (go_at_call 9; refine (hs _).mono ?_; rintro e X ⟨rfl, rfl⟩)
  go_wp2_with (with_reducible refine post_stop ?_)
  exact ⟨bodyPost_ret (v := .tuple #[.agg #[.int .i64 16, .string S], .bool true]) (by simp [results_cell_tmp Try.results6, asAddr, go_sem]) rfl ⟨rfl, bel_al (bel_al (bel_al (Below.refl _ _) _) _) _⟩⟩
end Go.Proofs.Ytpceomcnknjiiaa
namespace Go.Proofs.Ytpceomcnknjiiaa
open Go.RowKit

set_option maxHeartbeats 4000000 in
set_option maxRecDepth 100000 in
theorem owrite_not (q c : Int) (o : V7) (w : World) (h0 : 0 ≤ q) (h1 : q ≤ 255) (h3 : c = 3) (hR : oRightC o = false) :
    Calls Try.prog 6 #[.agg #[.int .i64 q, .int .i64 c, .int .i64 o.1, .int .i64 o.2.1, .int .i64 o.2.2.1, .int .i64 o.2.2.2.1, .int .i64 o.2.2.2.2.1, .int .i64 o.2.2.2.2.2.1, .int .i64 o.2.2.2.2.2.2]] w fun e w' => e = .returned (.tuple #[.agg #[.int .i64 0, .string ⟨#[]⟩], .bool false]) ∧ Below w.heap.size w w' := by
  subst h3
  have hs := sizeOf_any 3
  rw [show sizeS 3 = 58 from rfl] at hs
  have hr := oRightC_any o
  rw [hR] at hr
  have w1 : IntKind.u8.wrap q = q := by rw [IntKind.wrap_u8]; omega
  go_enter Try.func6, Try.ntmps6
  go_wp2_with (go_at_call 9; refine (hs _).mono ?_; rintro e X ⟨rfl, rfl⟩)
  refine (hr _).mono ?_
  rintro e W1 ⟨rfl, b1⟩
  have L1 := bel_then (bel_al (bel_al (bel_al (Below.refl _ w) _) _) _) b1
  have A1 := (((Arr_at w w.heap.size [.int .i64 q, .int .i64 3, .int .i64 o.1, .int .i64 o.2.1, .int .i64 o.2.2.1, .int .i64 o.2.2.2.1, .int .i64 o.2.2.2.2.1, .int .i64 o.2.2.2.2.2.1, .int .i64 o.2.2.2.2.2.2] 25 rfl).alloc (.cells #[.int .i64 0, .string ⟨#[]⟩] 28)).alloc (.cells #[.int .u8 q, .int .u8 3] 5)).below b1
  have R1 := ((Arr_at (w.alloc (.cells #[.int .i64 q, .int .i64 3, .int .i64 o.1, .int .i64 o.2.1, .int .i64 o.2.2.1, .int .i64 o.2.2.2.1, .int .i64 o.2.2.2.2.1, .int .i64 o.2.2.2.2.2.1, .int .i64 o.2.2.2.2.2.2] 25)) (w.heap.size + 1) [.int .i64 0, .string ⟨#[]⟩] 28 (by simp)).alloc (.cells #[.int .u8 q, .int .u8 3] 5)).below b1
  have c0 : W1.cell? ⟨w.heap.size + 1, 0, none⟩ = some (.int .i64 0) := R1.c 0 (of_decide_eq_true rfl)
  have c1 : W1.cell? ⟨w.heap.size + 1, 1, none⟩ = some (.string ⟨#[]⟩) := R1.c 1 (of_decide_eq_true rfl)
  have f0 := R1.f 0 (of_decide_eq_true rfl)
  have f1 := R1.f 1 (of_decide_eq_true rfl)
  clear A1 b1
  go_wp2_with (with_reducible refine post_stop ?_)
  have d0 := Arr.c ((R1.put 0 (of_decide_eq_true rfl) (.int .i64 0) [.int .i64 0, .string ⟨#[]⟩] rfl).put 1 (of_decide_eq_true rfl) (.string ⟨#[]⟩) [.int .i64 0, .string ⟨#[]⟩] rfl) 0 (of_decide_eq_true rfl)
  have d1 := Arr.c ((R1.put 0 (of_decide_eq_true rfl) (.int .i64 0) [.int .i64 0, .string ⟨#[]⟩] rfl).put 1 (of_decide_eq_true rfl) (.string ⟨#[]⟩) [.int .i64 0, .string ⟨#[]⟩] rfl) 1 (of_decide_eq_true rfl)
  simp only [List.getElem_cons_zero, List.getElem_cons_succ] at d0 d1
  exact ⟨bodyPost_ret (v := .tuple #[.agg #[.int .i64 0, .string ⟨#[]⟩], .bool false]) (by simp [results_cell_tmp Try.results6, asAddr, go_sem, d0, d1]) rfl ⟨rfl, bel_new (bel_new L1 _ _ (by omega) _) _ _ (by omega) _⟩⟩
end Go.Proofs.Ytpceomcnknjiiaa
namespace Go.Proofs.Ytpceomcnknjiiaa
open Go.RowKit

set_option maxHeartbeats 4000000 in
set_option maxRecDepth 100000 in
theorem owrite_long (q c : Int) (o : V7) (w : World) (h0 : 0 ≤ q) (h1 : q ≤ 255) (h3 : c = 3) (hR : oRightC o = true) :
    Calls Try.prog 6 #[.agg #[.int .i64 q, .int .i64 c, .int .i64 o.1, .int .i64 o.2.1, .int .i64 o.2.2.1, .int .i64 o.2.2.2.1, .int .i64 o.2.2.2.2.1, .int .i64 o.2.2.2.2.2.1, .int .i64 o.2.2.2.2.2.2]] w fun e w' => e = .returned (.tuple #[.agg #[.int .i64 16, .string (strOf (ordL q c o))], .bool true]) ∧ Below w.heap.size w w' := by
  subst h3
  have hs := sizeOf_any 3
  rw [show sizeS 3 = 58 from rfl] at hs
  have hr := oRightC_any o
  rw [hR] at hr
  have w1 : IntKind.u8.wrap q = q := by rw [IntKind.wrap_u8]; omega
  have HL : Hid (ordL q 3 o = elsL [q, 3] (v7F o) 7) := rfl
  have O0 := bytes2 ((w.alloc (.cells #[.int .i64 q, .int .i64 3, .int .i64 o.1, .int .i64 o.2.1, .int .i64 o.2.2.1, .int .i64 o.2.2.2.1, .int .i64 o.2.2.2.2.1, .int .i64 o.2.2.2.2.2.1, .int .i64 o.2.2.2.2.2.2] 25)).alloc (.cells #[.int .i64 0, .string ⟨#[]⟩] 28)) (w.heap.size + 2) (w.heap.size + 1 + 1) q 3 (by simp) (by simp)
  rw [HL.out]
  generalize hS : strOf (elsL [q, 3] (v7F o) 7) = S
  have HS : Hid (strOf (elsL [q, 3] (v7F o) 7) = S) := hS
  clear hS
  go_enter Try.func6, Try.ntmps6
  go_wp2_with (go_at_call 9; refine (hs _).mono ?_; rintro e X ⟨rfl, rfl⟩)
  refine (hr _).mono ?_
  rintro e W1 ⟨rfl, b1⟩
  have L1 := bel_then (bel_al (bel_al (bel_al (Below.refl _ w) _) _) _) b1
  have A1 := (((Arr_at w w.heap.size [.int .i64 q, .int .i64 3, .int .i64 o.1, .int .i64 o.2.1, .int .i64 o.2.2.1, .int .i64 o.2.2.2.1, .int .i64 o.2.2.2.2.1, .int .i64 o.2.2.2.2.2.1, .int .i64 o.2.2.2.2.2.2] 25 rfl).alloc (.cells #[.int .i64 0, .string ⟨#[]⟩] 28)).alloc (.cells #[.int .u8 q, .int .u8 3] 5)).below b1
  have R1 := ((Arr_at (w.alloc (.cells #[.int .i64 q, .int .i64 3, .int .i64 o.1, .int .i64 o.2.1, .int .i64 o.2.2.1, .int .i64 o.2.2.2.1, .int .i64 o.2.2.2.2.1, .int .i64 o.2.2.2.2.2.1, .int .i64 o.2.2.2.2.2.2] 25)) (w.heap.size + 1) [.int .i64 0, .string ⟨#[]⟩] 28 (by simp)).alloc (.cells #[.int .u8 q, .int .u8 3] 5)).below b1
  have O1 := O0.same b1
  clear O0
  have z1 := L1.size
  have rz1 := R1.lies
  have a2 : W1.cell? ⟨w.heap.size, 2, none⟩ = some (.int .i64 o.1) := A1.c 2 (of_decide_eq_true rfl)
  have a3 : W1.cell? ⟨w.heap.size, 3, none⟩ = some (.int .i64 o.2.1) := A1.c 3 (of_decide_eq_true rfl)
  have a4 : W1.cell? ⟨w.heap.size, 4, none⟩ = some (.int .i64 o.2.2.1) := A1.c 4 (of_decide_eq_true rfl)
  have a5 : W1.cell? ⟨w.heap.size, 5, none⟩ = some (.int .i64 o.2.2.2.1) := A1.c 5 (of_decide_eq_true rfl)
  have a6 : W1.cell? ⟨w.heap.size, 6, none⟩ = some (.int .i64 o.2.2.2.2.1) := A1.c 6 (of_decide_eq_true rfl)
  have a7 : W1.cell? ⟨w.heap.size, 7, none⟩ = some (.int .i64 o.2.2.2.2.2.1) := A1.c 7 (of_decide_eq_true rfl)
  have a8 : W1.cell? ⟨w.heap.size, 8, none⟩ = some (.int .i64 o.2.2.2.2.2.2) := A1.c 8 (of_decide_eq_true rfl)
  clear b1 A1
  go_wp2_with fail
  refine (wels_any (w.heap.size + 2) _ [q, 3] o _ O1 (by omega) (by simp)).mono ?_
  rintro e W2 ⟨v2, rfl, O2, b2, s2⟩
  have L2 := L1.trans (b2.mono (by omega))
  have R2 := R1.under b2 (by omega) s2
  have rz2 := R2.lies
  have hcv := conv_any O2 (by intro h; have := congrArg List.length h; rw [elsL_len] at this; simp at this) (elsL_rng (by intro b hb; simp only [List.mem_cons, List.not_mem_nil, or_false] at hb; rcases hb with rfl | rfl <;> omega) _ 7)
  rw [HS.out] at hcv
  clear O1 O2 L1 R1 b2 a2 a3 a4 a5 a6 a7 a8
  have c0 : W2.cell? ⟨w.heap.size + 1, 0, none⟩ = some (.int .i64 0) := R2.c 0 (of_decide_eq_true rfl)
  have c1 : W2.cell? ⟨w.heap.size + 1, 1, none⟩ = some (.string ⟨#[]⟩) := R2.c 1 (of_decide_eq_true rfl)
  have f0 := R2.f 0 (of_decide_eq_true rfl)
  have f1 := R2.f 1 (of_decide_eq_true rfl)
  go_wp2_with (with_reducible refine post_stop ?_)
  have d0 := Arr.c ((R2.put 0 (of_decide_eq_true rfl) (.int .i64 16) [.int .i64 16, .string ⟨#[]⟩] rfl).put 1 (of_decide_eq_true rfl) (.string S) [.int .i64 16, .string S] rfl) 0 (of_decide_eq_true rfl)
  have d1 := Arr.c ((R2.put 0 (of_decide_eq_true rfl) (.int .i64 16) [.int .i64 16, .string ⟨#[]⟩] rfl).put 1 (of_decide_eq_true rfl) (.string S) [.int .i64 16, .string S] rfl) 1 (of_decide_eq_true rfl)
  simp only [List.getElem_cons_zero, List.getElem_cons_succ] at d0 d1
  exact ⟨bodyPost_ret (v := .tuple #[.agg #[.int .i64 16, .string S], .bool true]) (by simp [results_cell_tmp Try.results6, asAddr, go_sem, d0, d1]) rfl ⟨rfl, bel_new (bel_new L2 _ _ (by omega) _) _ _ (by omega) _⟩⟩
theorem owrite_any (q c : Int) (o : V7) (w : World) :
    Calls Try.prog 6 #[.agg #[.int .i64 q, .int .i64 c, .int .i64 o.1, .int .i64 o.2.1, .int .i64 o.2.2.1, .int .i64 o.2.2.2.1, .int .i64 o.2.2.2.2.1, .int .i64 o.2.2.2.2.2.1, .int .i64 o.2.2.2.2.2.2]] w fun e w' => e = .returned (.tuple #[.agg #[.int .i64 (ordW q c o).1, .string (ordW q c o).2], .bool (ordOk q c o)]) ∧ Below w.heap.size w w' := by
  unfold ordW
  by_cases a : q < 0
  · have e : ordOk q c o = false := by unfold ordOk; simp; omega
    rw [e]
    exact owrite_lo q c o w a
  by_cases b : 255 < q
  · have e : ordOk q c o = false := by unfold ordOk; simp; omega
    rw [e]
    exact owrite_hi q c o w b
  by_cases d : c < 1 ∨ 4 < c
  · have e : ordOk q c o = false := by unfold ordOk; simp; omega
    rw [e]
    exact owrite_code q c o w (by omega) (by omega) (by unfold sizeS; rw [if_neg (by omega), if_neg (by omega)])
  by_cases t : c = 3
  · cases r : oRightC o
    · have e : ordOk q c o = false := by unfold ordOk; rw [r]; simp [t]
      rw [e]
      exact owrite_not q c o w (by omega) (by omega) t r
    · have e : ordOk q c o = true := by unfold ordOk; rw [r]; simp; omega
      rw [e]
      exact owrite_long q c o w (by omega) (by omega) t r
  · have e : ordOk q c o = true := by unfold ordOk; simp [t]; omega
    rw [e]
    exact owrite_short q c o w (by omega) (by omega) (by omega) (by omega) t
end Go.Proofs.Ytpceomcnknjiiaa
