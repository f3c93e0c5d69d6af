/-
  TelemCounts, walked, for the seat Ytchkedlfackfgaa. (Made by mktl.py.)
-/
import Derived.Test.YtchkedlfackfgaaTlAwake
import Derived.Test.YtchkedlfackfgaaTlRC
namespace Go.Proofs.Ytchkedlfackfgaa
open Go.RowKit

theorem inR_zero : inR 0 (-32768) 32767 = true := by decide
/-- Counts may be told. -/
theorem tlD_in (q : Int × Int × Int × Int) (m : V3) (r : (Int × Int × Int × Int) × V3) (h : tlD q m = r) : tlOk ⟨0, 0, 0, 0, 0, 0, r.1.1, r.1.2.1, r.1.2.2.1, r.1.2.2.2, r.2.1, r.2.2.1, r.2.2.2⟩ = true := by
  have k : ∀ r : (Int × Int × Int × Int) × V3, inR r.1.1 (-32768) 32767 = true → inR r.1.2.1 (-32768) 32767 = true → inR r.1.2.2.1 (-32768) 32767 = true → inR r.1.2.2.2 (-32768) 32767 = true → inR r.2.1 (-32768) 32767 = true → inR r.2.2.1 (-32768) 32767 = true → inR r.2.2.2 (-32768) 32767 = true → tlOk ⟨0, 0, 0, 0, 0, 0, r.1.1, r.1.2.1, r.1.2.2.1, r.1.2.2.2, r.2.1, r.2.2.1, r.2.2.2⟩ = true := by
    intro r h0 h1 h2 h3 h4 h5 h6
    unfold tlOk
    dsimp only
    rw [h0, h1, h2, h3, h4, h5, h6]
    rfl
  subst h
  unfold tlD
  dsimp only
  split
  · rename_i c
    simp only [Bool.and_eq_true] at c
    obtain ⟨⟨⟨⟨⟨⟨⟨c0, c1⟩, c2⟩, c3⟩, c4⟩, c5⟩, c6⟩, _⟩ := c
    exact k ((_, _, _, _), (_, _, _)) c0 c1 c2 c3 c4 c5 c6
  · exact k ((0, 0, 0, 0), (0, 0, 0)) inR_zero inR_zero inR_zero inR_zero inR_zero inR_zero inR_zero
set_option maxHeartbeats 4000000 in
set_option maxRecDepth 100000 in
theorem TelemCounts_any (q : Int × Int × Int × Int) (m : V3) (w : World) :
    Calls Try.prog 5 #[.agg #[.int .i64 q.1, .int .i64 q.2.1, .int .i64 q.2.2.1, .int .i64 q.2.2.2], .agg #[.int .i64 m.1, .int .i64 m.2.1, .int .i64 m.2.2]] w fun e w' => e = .returned (.bool true) ∧ Below w.heap.size w w' := by
  have hc := tcounts_any q m
  have hd := rtcounts_any q m
  rw [tlC_eq] at hc
  obtain ⟨r, hr⟩ : ∃ r, tlD q m = r := ⟨_, rfl⟩
  have hk := tlD_in q m r hr
  rw [hr] at hc hd
  clear hr
  have hw := twrite_any ⟨0, 0, 0, 0, 0, 0, r.1.1, r.1.2.1, r.1.2.2.1, r.1.2.2.2, r.2.1, r.2.2.1, r.2.2.2⟩
  rw [hk] at hw
  dsimp only at hw
  generalize tlW ⟨0, 0, 0, 0, 0, 0, r.1.1, r.1.2.1, r.1.2.2.1, r.1.2.2.2, r.2.1, r.2.2.1, r.2.2.2⟩ = f at hw
  clear hk
  go_enter Try.func5, Try.ntmps5
  go_wp2_with fail
  refine (awake_any _).mono ?_
  rintro e w1 ⟨rfl, b1⟩
  have L1 := bel_then (bel_al (bel_al (Below.refl _ w) _) _) b1
  have B1 := ((Arr_at w w.heap.size [.int .i64 q.1, .int .i64 q.2.1, .int .i64 q.2.2.1, .int .i64 q.2.2.2] 36 rfl).alloc (.cells #[.int .i64 m.1, .int .i64 m.2.1, .int .i64 m.2.2] 38)).below b1
  have M1 := (Arr_at (w.alloc (.cells #[.int .i64 q.1, .int .i64 q.2.1, .int .i64 q.2.2.1, .int .i64 q.2.2.2] 36)) (w.heap.size + 1) [.int .i64 m.1, .int .i64 m.2.1, .int .i64 m.2.2] 38 (by simp)).below b1
  have a0 : w1.cell? ⟨w.heap.size, 0, none⟩ = some (.int .i64 q.1) := B1.c 0 (of_decide_eq_true rfl)
  have a1 : w1.cell? ⟨w.heap.size, 1, none⟩ = some (.int .i64 q.2.1) := B1.c 1 (of_decide_eq_true rfl)
  have a2 : w1.cell? ⟨w.heap.size, 2, none⟩ = some (.int .i64 q.2.2.1) := B1.c 2 (of_decide_eq_true rfl)
  have a3 : w1.cell? ⟨w.heap.size, 3, none⟩ = some (.int .i64 q.2.2.2) := B1.c 3 (of_decide_eq_true rfl)
  have m0 : w1.cell? ⟨w.heap.size + 1, 0, none⟩ = some (.int .i64 m.1) := M1.c 0 (of_decide_eq_true rfl)
  have m1 : w1.cell? ⟨w.heap.size + 1, 1, none⟩ = some (.int .i64 m.2.1) := M1.c 1 (of_decide_eq_true rfl)
  have m2 : w1.cell? ⟨w.heap.size + 1, 2, none⟩ = some (.int .i64 m.2.2) := M1.c 2 (of_decide_eq_true rfl)
  have y1 := B1.lies
  have z1 := M1.lies
  clear b1
  go_wp2_with fail
  refine (hc _).mono ?_
  rintro e w2 ⟨rfl, b2⟩
  have L2 := bel_then L1 b2
  have B2 := B1.below b2
  have M2 := M1.below b2
  have y2 := B2.lies
  have z2 := M2.lies
  clear b2 L1 B1 M1 y1 z1
  clear a0 a1 a2 a3 m0 m1 m2
  have a0 : w2.cell? ⟨w.heap.size, 0, none⟩ = some (.int .i64 q.1) := B2.c 0 (of_decide_eq_true rfl)
  have a1 : w2.cell? ⟨w.heap.size, 1, none⟩ = some (.int .i64 q.2.1) := B2.c 1 (of_decide_eq_true rfl)
  have a2 : w2.cell? ⟨w.heap.size, 2, none⟩ = some (.int .i64 q.2.2.1) := B2.c 2 (of_decide_eq_true rfl)
  have a3 : w2.cell? ⟨w.heap.size, 3, none⟩ = some (.int .i64 q.2.2.2) := B2.c 3 (of_decide_eq_true rfl)
  have m0 : w2.cell? ⟨w.heap.size + 1, 0, none⟩ = some (.int .i64 m.1) := M2.c 0 (of_decide_eq_true rfl)
  have m1 : w2.cell? ⟨w.heap.size + 1, 1, none⟩ = some (.int .i64 m.2.1) := M2.c 1 (of_decide_eq_true rfl)
  have m2 : w2.cell? ⟨w.heap.size + 1, 2, none⟩ = some (.int .i64 m.2.2) := M2.c 2 (of_decide_eq_true rfl)
  go_wp2_with fail
  refine (hd _).mono ?_
  rintro e w3 ⟨rfl, b3⟩
  have L3 := bel_then (bel_al (bel_al L2 _) _) b3
  have P3 := ((Arr_at w2 w2.heap.size [.int .i64 r.1.1, .int .i64 r.1.2.1, .int .i64 r.1.2.2.1, .int .i64 r.1.2.2.2] 22 rfl).alloc (.cells #[.int .i64 r.2.1, .int .i64 r.2.2.1, .int .i64 r.2.2.2] 23)).below b3
  have Q3 := (Arr_at (w2.alloc (.cells #[.int .i64 r.1.1, .int .i64 r.1.2.1, .int .i64 r.1.2.2.1, .int .i64 r.1.2.2.2] 22)) (w2.heap.size + 1) [.int .i64 r.2.1, .int .i64 r.2.2.1, .int .i64 r.2.2.2] 23 (by simp)).below b3
  have p3 := P3.lies
  have q3 := Q3.lies
  have w23 := L2.size
  clear b3 L2 B2 M2
  clear a0 a1 a2 a3 m0 m1 m2
  have c0 : w3.cell? ⟨w2.heap.size, 0, none⟩ = some (.int .i64 r.1.1) := P3.c 0 (of_decide_eq_true rfl)
  have c1 : w3.cell? ⟨w2.heap.size, 1, none⟩ = some (.int .i64 r.1.2.1) := P3.c 1 (of_decide_eq_true rfl)
  have c2 : w3.cell? ⟨w2.heap.size, 2, none⟩ = some (.int .i64 r.1.2.2.1) := P3.c 2 (of_decide_eq_true rfl)
  have c3 : w3.cell? ⟨w2.heap.size, 3, none⟩ = some (.int .i64 r.1.2.2.2) := P3.c 3 (of_decide_eq_true rfl)
  have c4 : w3.cell? ⟨w2.heap.size + 1, 0, none⟩ = some (.int .i64 r.2.1) := Q3.c 0 (of_decide_eq_true rfl)
  have c5 : w3.cell? ⟨w2.heap.size + 1, 1, none⟩ = some (.int .i64 r.2.2.1) := Q3.c 1 (of_decide_eq_true rfl)
  have c6 : w3.cell? ⟨w2.heap.size + 1, 2, none⟩ = some (.int .i64 r.2.2.2) := Q3.c 2 (of_decide_eq_true rfl)
  go_wp2_with fail
  refine (hw _).mono ?_
  rintro e w4 ⟨rfl, b4⟩
  have L4 := bel_then (bel_al (bel_al L3 _) _) b4
  have P4 := ((P3.alloc (.cells #[.int .i64 r.1.1, .int .i64 r.1.2.1, .int .i64 r.1.2.2.1, .int .i64 r.1.2.2.2] 22)).alloc (.cells #[.int .i64 r.2.1, .int .i64 r.2.2.1, .int .i64 r.2.2.2] 23)).below b4
  have Q4 := ((Q3.alloc (.cells #[.int .i64 r.1.1, .int .i64 r.1.2.1, .int .i64 r.1.2.2.1, .int .i64 r.1.2.2.2] 22)).alloc (.cells #[.int .i64 r.2.1, .int .i64 r.2.2.1, .int .i64 r.2.2.2] 23)).below b4
  have R4 := ((Arr_at w3 w3.heap.size [.int .i64 r.1.1, .int .i64 r.1.2.1, .int .i64 r.1.2.2.1, .int .i64 r.1.2.2.2] 22 rfl).alloc (.cells #[.int .i64 r.2.1, .int .i64 r.2.2.1, .int .i64 r.2.2.2] 23)).below b4
  have S4 := (Arr_at (w3.alloc (.cells #[.int .i64 r.1.1, .int .i64 r.1.2.1, .int .i64 r.1.2.2.1, .int .i64 r.1.2.2.2] 22)) (w3.heap.size + 1) [.int .i64 r.2.1, .int .i64 r.2.2.1, .int .i64 r.2.2.2] 23 (by simp)).below b4
  have p4 := P4.lies
  have q4 := Q4.lies
  have r4 := R4.lies
  have s4 := S4.lies
  clear b4 L3 P3 Q3 c0 c1 c2 c3 c4 c5 c6
  have c0 : w4.cell? ⟨w2.heap.size, 0, none⟩ = some (.int .i64 r.1.1) := P4.c 0 (of_decide_eq_true rfl)
  have c1 : w4.cell? ⟨w2.heap.size, 1, none⟩ = some (.int .i64 r.1.2.1) := P4.c 1 (of_decide_eq_true rfl)
  have c2 : w4.cell? ⟨w2.heap.size, 2, none⟩ = some (.int .i64 r.1.2.2.1) := P4.c 2 (of_decide_eq_true rfl)
  have c3 : w4.cell? ⟨w2.heap.size, 3, none⟩ = some (.int .i64 r.1.2.2.2) := P4.c 3 (of_decide_eq_true rfl)
  have c4 : w4.cell? ⟨w2.heap.size + 1, 0, none⟩ = some (.int .i64 r.2.1) := Q4.c 0 (of_decide_eq_true rfl)
  have c5 : w4.cell? ⟨w2.heap.size + 1, 1, none⟩ = some (.int .i64 r.2.2.1) := Q4.c 1 (of_decide_eq_true rfl)
  have c6 : w4.cell? ⟨w2.heap.size + 1, 2, none⟩ = some (.int .i64 r.2.2.2) := Q4.c 2 (of_decide_eq_true rfl)
  have d0 : w4.cell? ⟨w3.heap.size, 0, none⟩ = some (.int .i64 r.1.1) := R4.c 0 (of_decide_eq_true rfl)
  have d1 : w4.cell? ⟨w3.heap.size, 1, none⟩ = some (.int .i64 r.1.2.1) := R4.c 1 (of_decide_eq_true rfl)
  have d2 : w4.cell? ⟨w3.heap.size, 2, none⟩ = some (.int .i64 r.1.2.2.1) := R4.c 2 (of_decide_eq_true rfl)
  have d3 : w4.cell? ⟨w3.heap.size, 3, none⟩ = some (.int .i64 r.1.2.2.2) := R4.c 3 (of_decide_eq_true rfl)
  have d4 : w4.cell? ⟨w3.heap.size + 1, 0, none⟩ = some (.int .i64 r.2.1) := S4.c 0 (of_decide_eq_true rfl)
  have d5 : w4.cell? ⟨w3.heap.size + 1, 1, none⟩ = some (.int .i64 r.2.2.1) := S4.c 1 (of_decide_eq_true rfl)
  have d6 : w4.cell? ⟨w3.heap.size + 1, 2, none⟩ = some (.int .i64 r.2.2.2) := S4.c 2 (of_decide_eq_true rfl)
  go_wp2_with (with_reducible refine post_stop ?_)
  exact ⟨bodyPost_ret (v := .bool true) (by simp [results, Try.results5, go_sem]) rfl ⟨rfl, bel_al L4 _⟩⟩
end Go.Proofs.Ytchkedlfackfgaa
