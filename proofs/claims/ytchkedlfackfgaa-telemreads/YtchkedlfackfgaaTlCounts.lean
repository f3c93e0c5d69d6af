/-
  Telem: Counts, walked, for the seat Ytchkedlfackfgaa. (Made by mktl.py.)
-/
import Derived.Test.YtchkedlfackfgaaTlCM
import Derived.Test.YtchkedlfackfgaaTlLeaf
import Derived.Test.YtchkedlfackfgaaVFold
import Derived.BigRegion
namespace Go.Proofs.Ytchkedlfackfgaa
open Go.RowKit

@[go_sem] theorem idx_cq0 (a b c d : Int) (w : World) : (Instr.index 36 (.agg #[.int .i64 a, .int .i64 b, .int .i64 c, .int .i64 d]) (.int .i64 0)).run Try.prog w = .ok (.int .i64 a) w := by kernel_rfl
@[go_sem] theorem idx_cq1 (a b c d : Int) (w : World) : (Instr.index 36 (.agg #[.int .i64 a, .int .i64 b, .int .i64 c, .int .i64 d]) (.int .i64 1)).run Try.prog w = .ok (.int .i64 b) w := by kernel_rfl
@[go_sem] theorem idx_cq2 (a b c d : Int) (w : World) : (Instr.index 36 (.agg #[.int .i64 a, .int .i64 b, .int .i64 c, .int .i64 d]) (.int .i64 2)).run Try.prog w = .ok (.int .i64 c) w := by kernel_rfl
@[go_sem] theorem idx_cq3 (a b c d : Int) (w : World) : (Instr.index 36 (.agg #[.int .i64 a, .int .i64 b, .int .i64 c, .int .i64 d]) (.int .i64 3)).run Try.prog w = .ok (.int .i64 d) w := by kernel_rfl
@[go_sem] theorem idx_cv0 (a b c : Int) (w : World) : (Instr.index 38 (.agg #[.int .i64 a, .int .i64 b, .int .i64 c]) (.int .i64 0)).run Try.prog w = .ok (.int .i64 a) w := by kernel_rfl
@[go_sem] theorem idx_cv1 (a b c : Int) (w : World) : (Instr.index 38 (.agg #[.int .i64 a, .int .i64 b, .int .i64 c]) (.int .i64 1)).run Try.prog w = .ok (.int .i64 b) w := by kernel_rfl
@[go_sem] theorem idx_cv2 (a b c : Int) (w : World) : (Instr.index 38 (.agg #[.int .i64 a, .int .i64 b, .int .i64 c]) (.int .i64 2)).run Try.prog w = .ok (.int .i64 c) w := by kernel_rfl
set_option maxHeartbeats 2000000 in
set_option maxRecDepth 100000 in
theorem tcount_any (b : Nat) (bad : Bool) (c : Int) (w : World) (hw : Fl b bad w) :
    Calls Try.prog 22 #[.pointer (some ⟨b, 0, none⟩), .int .i64 c] w fun e w' => e = .returned (.int .i64 (cS (c, bad)).1) ∧ Fl b (cS (c, bad)).2 w' ∧ Kept b w w' := by
  by_cases h1 : c < -32768
  · rw [cS_out (r := (c, bad)) (by unfold inR; rw [decide_eq_false (by omega), Bool.false_and])]
    go_enter Try.func22, Try.ntmps22
    go_wp2_with fail
    refine (Fail_any b bad _ hw).mono ?_
    rintro e w1 ⟨rfl, f1, k1⟩
    go_wp2_with fail
    go_ret
    exact ⟨rfl, f1, k1⟩
  by_cases h2 : 32767 < c
  · rw [cS_out (r := (c, bad)) (by unfold inR; rw [decide_eq_false (p := c ≤ 32767) (by omega), Bool.and_false])]
    go_enter Try.func22, Try.ntmps22
    go_wp2_with fail
    refine (Fail_any b bad _ hw).mono ?_
    rintro e w1 ⟨rfl, f1, k1⟩
    go_wp2_with fail
    go_ret
    exact ⟨rfl, f1, k1⟩
  · rw [cS_in (r := (c, bad)) (inR_iff.2 ⟨by show -32768 ≤ c; omega, by show c ≤ 32767; omega⟩)]
    go_enter Try.func22, Try.ntmps22
    go_wp2
    go_ret
    exact ⟨rfl, hw, Kept.refl _ _⟩
set_option maxHeartbeats 4000000 in
set_option maxRecDepth 100000 in
theorem tcounts_any (q : Int × Int × Int × Int) (m : V3) (w : World) :
    Calls Try.prog 11 #[.agg #[.int .i64 q.1, .int .i64 q.2.1, .int .i64 q.2.2.1, .int .i64 q.2.2.2], .agg #[.int .i64 m.1, .int .i64 m.2.1, .int .i64 m.2.2]] w fun e w' => e = .returned (.tuple #[.agg #[.int .i64 (tlC q m).1.1, .int .i64 (tlC q m).1.2.1, .int .i64 (tlC q m).1.2.2.1, .int .i64 (tlC q m).1.2.2.2], .agg #[.int .i64 (tlC q m).2.1, .int .i64 (tlC q m).2.2.1, .int .i64 (tlC q m).2.2.2]]) ∧ Below w.heap.size w w' := by
  go_enter Try.func11, Try.ntmps11
  go_wp2_with fail
  refine wp_loop_rounds 5 ?_
  refine rounds_letter (S := fun W => Below w.heap.size w W ∧ Arr (w.heap.size) [.int .i64 q.1, .int .i64 q.2.1, .int .i64 q.2.2.1, .int .i64 q.2.2.2] W ∧ Arr (w.heap.size + 1) [.int .i64 m.1, .int .i64 m.2.1, .int .i64 m.2.2] W ∧ Arr (w.heap.size + 1 + 1) [.int .i64 0, .int .i64 0, .int .i64 0, .int .i64 0] W ∧ Arr (w.heap.size + 1 + 1 + 1) [.int .i64 0, .int .i64 0, .int .i64 0] W ∧ Arr (w.heap.size + 1 + 1 + 1 + 1 + 1) [.int .i64 0, .int .i64 0, .int .i64 0, .int .i64 0] W ∧ Fl (w.heap.size + 1 + 1 + 1 + 1) false W) ⟨bel_al (bel_al (bel_al (bel_al (bel_al (bel_al (Below.refl _ _) _) _) _) _) _) _, Arr.alloc (Arr.alloc (Arr.alloc (Arr.alloc (Arr.alloc (Arr_at w (w.heap.size) [.int .i64 q.1, .int .i64 q.2.1, .int .i64 q.2.2.1, .int .i64 q.2.2.2] _ rfl) _) _) _) _) _, Arr.alloc (Arr.alloc (Arr.alloc (Arr.alloc (Arr_at _ (w.heap.size + 1) [.int .i64 m.1, .int .i64 m.2.1, .int .i64 m.2.2] _ (by simp)) _) _) _) _, Arr.alloc (Arr.alloc (Arr.alloc (Arr_at _ (w.heap.size + 1 + 1) [.int .i64 0, .int .i64 0, .int .i64 0, .int .i64 0] _ (by simp)) _) _) _, Arr.alloc (Arr.alloc (Arr_at _ (w.heap.size + 1 + 1 + 1) [.int .i64 0, .int .i64 0, .int .i64 0] _ (by simp)) _) _, Arr_at _ (w.heap.size + 1 + 1 + 1 + 1 + 1) [.int .i64 0, .int .i64 0, .int .i64 0, .int .i64 0] _ (by simp), Fl.alloc (Fl_at _ (w.heap.size + 1 + 1 + 1 + 1) false _ (by simp)) _⟩ ?_
  rintro W1 ⟨L1, q1, m1, A1, D1, H1, F1⟩
  have qz1 := q1.lies
  have mz1 := m1.lies
  have Az1 := A1.lies
  have Dz1 := D1.lies
  have Hz1 := H1.lies
  have Fz1 := F1.lies
  rw [rounds_succ]
  go_wp2_with fail
  refine (Part_any (w.heap.size + 1 + 1 + 1 + 1) false q.1 1 67108864 _ F1).mono ?_
  rintro e W2 ⟨rfl, F2, k⟩
  have L2 := k.on L1 (by omega)
  have q2 := q1.kept k (by omega)
  have m2 := m1.kept k (by omega)
  have A2 := A1.kept k (by omega)
  have D2 := D1.kept k (by omega)
  have H2 := H1.kept k (by omega)
  have qz2 := q2.lies
  have mz2 := m2.lies
  have Az2 := A2.lies
  have Dz2 := D2.lies
  have Hz2 := H2.lies
  have Fz2 := F2.lies
  clear k
  clear L1 q1 m1 A1 D1 H1 F1 qz1 mz1 Az1 Dz1 Hz1 Fz1
  generalize e0 : partS false q.1 1 67108864 = r0 at F2 ⊢
  have E0 : Hid _ := e0
  clear e0
  go_wp2_with fail
  refine (tcount_any (w.heap.size + 1 + 1 + 1 + 1) r0.2 r0.1 _ F2).mono ?_
  rintro e W3 ⟨rfl, F3, k⟩
  have L3 := k.on L2 (by omega)
  have q3 := q2.kept k (by omega)
  have m3 := m2.kept k (by omega)
  have A3 := A2.kept k (by omega)
  have D3 := D2.kept k (by omega)
  have H3 := H2.kept k (by omega)
  have qz3 := q3.lies
  have mz3 := m3.lies
  have Az3 := A3.lies
  have Dz3 := D3.lies
  have Hz3 := H3.lies
  have Fz3 := F3.lies
  clear k
  clear L2 q2 m2 A2 D2 H2 F2 qz2 mz2 Az2 Dz2 Hz2 Fz2
  generalize g0 : cS (r0.1, r0.2) = p0 at F3 ⊢
  have P0 : Hid (cS r0 = p0) := g0
  clear g0
  have cH_0 : W3.cell? ⟨w.heap.size + 1 + 1 + 1 + 1 + 1, 0, none⟩ = some (.int .i64 0) := H3.c 0 (of_decide_eq_true rfl)
  have gH_0 := H3.f 0 (of_decide_eq_true rfl)
  go_wp2_with fail
  refine rounds_letter (S := fun W => Below w.heap.size w W ∧ Arr (w.heap.size) [.int .i64 q.1, .int .i64 q.2.1, .int .i64 q.2.2.1, .int .i64 q.2.2.2] W ∧ Arr (w.heap.size + 1) [.int .i64 m.1, .int .i64 m.2.1, .int .i64 m.2.2] W ∧ Arr (w.heap.size + 1 + 1) [.int .i64 0, .int .i64 0, .int .i64 0, .int .i64 0] W ∧ Arr (w.heap.size + 1 + 1 + 1) [.int .i64 0, .int .i64 0, .int .i64 0] W ∧ Arr (w.heap.size + 1 + 1 + 1 + 1 + 1) [.int .i64 p0.1, .int .i64 0, .int .i64 0, .int .i64 0] W ∧ Fl (w.heap.size + 1 + 1 + 1 + 1) p0.2 W) ⟨bel_new (L3) _ _ (by omega) _, Arr.new (q3) _ _ (by omega) _, Arr.new (m3) _ _ (by omega) _, Arr.new (A3) _ _ (by omega) _, Arr.new (D3) _ _ (by omega) _, Arr.put (H3) 0 (of_decide_eq_true rfl) (.int .i64 p0.1) [.int .i64 p0.1, .int .i64 0, .int .i64 0, .int .i64 0] rfl, Fl.new (F3) _ _ (by omega) _⟩ ?_
  rintro W4 ⟨L4, q4, m4, A4, D4, H4, F4⟩
  have qz4 := q4.lies
  have mz4 := m4.lies
  have Az4 := A4.lies
  have Dz4 := D4.lies
  have Hz4 := H4.lies
  have Fz4 := F4.lies
  clear cH_0 gH_0
  clear L3 q3 m3 A3 D3 H3 F3 qz3 mz3 Az3 Dz3 Hz3 Fz3
  rw [rounds_succ]
  go_wp2_with fail
  refine (Part_any (w.heap.size + 1 + 1 + 1 + 1) p0.2 q.2.1 1 67108864 _ F4).mono ?_
  rintro e W5 ⟨rfl, F5, k⟩
  have L5 := k.on L4 (by omega)
  have q5 := q4.kept k (by omega)
  have m5 := m4.kept k (by omega)
  have A5 := A4.kept k (by omega)
  have D5 := D4.kept k (by omega)
  have H5 := H4.kept k (by omega)
  have qz5 := q5.lies
  have mz5 := m5.lies
  have Az5 := A5.lies
  have Dz5 := D5.lies
  have Hz5 := H5.lies
  have Fz5 := F5.lies
  clear k
  clear L4 q4 m4 A4 D4 H4 F4 qz4 mz4 Az4 Dz4 Hz4 Fz4
  generalize e1 : partS p0.2 q.2.1 1 67108864 = r1 at F5 ⊢
  have E1 : Hid _ := e1
  clear e1
  go_wp2_with fail
  refine (tcount_any (w.heap.size + 1 + 1 + 1 + 1) r1.2 r1.1 _ F5).mono ?_
  rintro e W6 ⟨rfl, F6, k⟩
  have L6 := k.on L5 (by omega)
  have q6 := q5.kept k (by omega)
  have m6 := m5.kept k (by omega)
  have A6 := A5.kept k (by omega)
  have D6 := D5.kept k (by omega)
  have H6 := H5.kept k (by omega)
  have qz6 := q6.lies
  have mz6 := m6.lies
  have Az6 := A6.lies
  have Dz6 := D6.lies
  have Hz6 := H6.lies
  have Fz6 := F6.lies
  clear k
  clear L5 q5 m5 A5 D5 H5 F5 qz5 mz5 Az5 Dz5 Hz5 Fz5
  generalize g1 : cS (r1.1, r1.2) = p1 at F6 ⊢
  have P1 : Hid (cS r1 = p1) := g1
  clear g1
  have cH_1 : W6.cell? ⟨w.heap.size + 1 + 1 + 1 + 1 + 1, 1, none⟩ = some (.int .i64 0) := H6.c 1 (of_decide_eq_true rfl)
  have gH_1 := H6.f 1 (of_decide_eq_true rfl)
  go_wp2_with fail
  refine rounds_letter (S := fun W => Below w.heap.size w W ∧ Arr (w.heap.size) [.int .i64 q.1, .int .i64 q.2.1, .int .i64 q.2.2.1, .int .i64 q.2.2.2] W ∧ Arr (w.heap.size + 1) [.int .i64 m.1, .int .i64 m.2.1, .int .i64 m.2.2] W ∧ Arr (w.heap.size + 1 + 1) [.int .i64 0, .int .i64 0, .int .i64 0, .int .i64 0] W ∧ Arr (w.heap.size + 1 + 1 + 1) [.int .i64 0, .int .i64 0, .int .i64 0] W ∧ Arr (w.heap.size + 1 + 1 + 1 + 1 + 1) [.int .i64 p0.1, .int .i64 p1.1, .int .i64 0, .int .i64 0] W ∧ Fl (w.heap.size + 1 + 1 + 1 + 1) p1.2 W) ⟨bel_new (L6) _ _ (by omega) _, Arr.new (q6) _ _ (by omega) _, Arr.new (m6) _ _ (by omega) _, Arr.new (A6) _ _ (by omega) _, Arr.new (D6) _ _ (by omega) _, Arr.put (H6) 1 (of_decide_eq_true rfl) (.int .i64 p1.1) [.int .i64 p0.1, .int .i64 p1.1, .int .i64 0, .int .i64 0] rfl, Fl.new (F6) _ _ (by omega) _⟩ ?_
  rintro W7 ⟨L7, q7, m7, A7, D7, H7, F7⟩
  have qz7 := q7.lies
  have mz7 := m7.lies
  have Az7 := A7.lies
  have Dz7 := D7.lies
  have Hz7 := H7.lies
  have Fz7 := F7.lies
  clear cH_1 gH_1
  clear L6 q6 m6 A6 D6 H6 F6 qz6 mz6 Az6 Dz6 Hz6 Fz6
  rw [rounds_succ]
  go_wp2_with fail
  refine (Part_any (w.heap.size + 1 + 1 + 1 + 1) p1.2 q.2.2.1 1 67108864 _ F7).mono ?_
  rintro e W8 ⟨rfl, F8, k⟩
  have L8 := k.on L7 (by omega)
  have q8 := q7.kept k (by omega)
  have m8 := m7.kept k (by omega)
  have A8 := A7.kept k (by omega)
  have D8 := D7.kept k (by omega)
  have H8 := H7.kept k (by omega)
  have qz8 := q8.lies
  have mz8 := m8.lies
  have Az8 := A8.lies
  have Dz8 := D8.lies
  have Hz8 := H8.lies
  have Fz8 := F8.lies
  clear k
  clear L7 q7 m7 A7 D7 H7 F7 qz7 mz7 Az7 Dz7 Hz7 Fz7
  generalize e2 : partS p1.2 q.2.2.1 1 67108864 = r2 at F8 ⊢
  have E2 : Hid _ := e2
  clear e2
  go_wp2_with fail
  refine (tcount_any (w.heap.size + 1 + 1 + 1 + 1) r2.2 r2.1 _ F8).mono ?_
  rintro e W9 ⟨rfl, F9, k⟩
  have L9 := k.on L8 (by omega)
  have q9 := q8.kept k (by omega)
  have m9 := m8.kept k (by omega)
  have A9 := A8.kept k (by omega)
  have D9 := D8.kept k (by omega)
  have H9 := H8.kept k (by omega)
  have qz9 := q9.lies
  have mz9 := m9.lies
  have Az9 := A9.lies
  have Dz9 := D9.lies
  have Hz9 := H9.lies
  have Fz9 := F9.lies
  clear k
  clear L8 q8 m8 A8 D8 H8 F8 qz8 mz8 Az8 Dz8 Hz8 Fz8
  generalize g2 : cS (r2.1, r2.2) = p2 at F9 ⊢
  have P2 : Hid (cS r2 = p2) := g2
  clear g2
  have cH_2 : W9.cell? ⟨w.heap.size + 1 + 1 + 1 + 1 + 1, 2, none⟩ = some (.int .i64 0) := H9.c 2 (of_decide_eq_true rfl)
  have gH_2 := H9.f 2 (of_decide_eq_true rfl)
  go_wp2_with fail
  refine rounds_letter (S := fun W => Below w.heap.size w W ∧ Arr (w.heap.size) [.int .i64 q.1, .int .i64 q.2.1, .int .i64 q.2.2.1, .int .i64 q.2.2.2] W ∧ Arr (w.heap.size + 1) [.int .i64 m.1, .int .i64 m.2.1, .int .i64 m.2.2] W ∧ Arr (w.heap.size + 1 + 1) [.int .i64 0, .int .i64 0, .int .i64 0, .int .i64 0] W ∧ Arr (w.heap.size + 1 + 1 + 1) [.int .i64 0, .int .i64 0, .int .i64 0] W ∧ Arr (w.heap.size + 1 + 1 + 1 + 1 + 1) [.int .i64 p0.1, .int .i64 p1.1, .int .i64 p2.1, .int .i64 0] W ∧ Fl (w.heap.size + 1 + 1 + 1 + 1) p2.2 W) ⟨bel_new (L9) _ _ (by omega) _, Arr.new (q9) _ _ (by omega) _, Arr.new (m9) _ _ (by omega) _, Arr.new (A9) _ _ (by omega) _, Arr.new (D9) _ _ (by omega) _, Arr.put (H9) 2 (of_decide_eq_true rfl) (.int .i64 p2.1) [.int .i64 p0.1, .int .i64 p1.1, .int .i64 p2.1, .int .i64 0] rfl, Fl.new (F9) _ _ (by omega) _⟩ ?_
  rintro W10 ⟨L10, q10, m10, A10, D10, H10, F10⟩
  have qz10 := q10.lies
  have mz10 := m10.lies
  have Az10 := A10.lies
  have Dz10 := D10.lies
  have Hz10 := H10.lies
  have Fz10 := F10.lies
  clear cH_2 gH_2
  clear L9 q9 m9 A9 D9 H9 F9 qz9 mz9 Az9 Dz9 Hz9 Fz9
  rw [rounds_succ]
  go_wp2_with fail
  refine (Part_any (w.heap.size + 1 + 1 + 1 + 1) p2.2 q.2.2.2 1 67108864 _ F10).mono ?_
  rintro e W11 ⟨rfl, F11, k⟩
  have L11 := k.on L10 (by omega)
  have q11 := q10.kept k (by omega)
  have m11 := m10.kept k (by omega)
  have A11 := A10.kept k (by omega)
  have D11 := D10.kept k (by omega)
  have H11 := H10.kept k (by omega)
  have qz11 := q11.lies
  have mz11 := m11.lies
  have Az11 := A11.lies
  have Dz11 := D11.lies
  have Hz11 := H11.lies
  have Fz11 := F11.lies
  clear k
  clear L10 q10 m10 A10 D10 H10 F10 qz10 mz10 Az10 Dz10 Hz10 Fz10
  generalize e3 : partS p2.2 q.2.2.2 1 67108864 = r3 at F11 ⊢
  have E3 : Hid _ := e3
  clear e3
  go_wp2_with fail
  refine (tcount_any (w.heap.size + 1 + 1 + 1 + 1) r3.2 r3.1 _ F11).mono ?_
  rintro e W12 ⟨rfl, F12, k⟩
  have L12 := k.on L11 (by omega)
  have q12 := q11.kept k (by omega)
  have m12 := m11.kept k (by omega)
  have A12 := A11.kept k (by omega)
  have D12 := D11.kept k (by omega)
  have H12 := H11.kept k (by omega)
  have qz12 := q12.lies
  have mz12 := m12.lies
  have Az12 := A12.lies
  have Dz12 := D12.lies
  have Hz12 := H12.lies
  have Fz12 := F12.lies
  clear k
  clear L11 q11 m11 A11 D11 H11 F11 qz11 mz11 Az11 Dz11 Hz11 Fz11
  generalize g3 : cS (r3.1, r3.2) = p3 at F12 ⊢
  have P3 : Hid (cS r3 = p3) := g3
  clear g3
  have cH_3 : W12.cell? ⟨w.heap.size + 1 + 1 + 1 + 1 + 1, 3, none⟩ = some (.int .i64 0) := H12.c 3 (of_decide_eq_true rfl)
  have gH_3 := H12.f 3 (of_decide_eq_true rfl)
  go_wp2_with fail
  refine rounds_letter (S := fun W => Below w.heap.size w W ∧ Arr (w.heap.size) [.int .i64 q.1, .int .i64 q.2.1, .int .i64 q.2.2.1, .int .i64 q.2.2.2] W ∧ Arr (w.heap.size + 1) [.int .i64 m.1, .int .i64 m.2.1, .int .i64 m.2.2] W ∧ Arr (w.heap.size + 1 + 1) [.int .i64 0, .int .i64 0, .int .i64 0, .int .i64 0] W ∧ Arr (w.heap.size + 1 + 1 + 1) [.int .i64 0, .int .i64 0, .int .i64 0] W ∧ Arr (w.heap.size + 1 + 1 + 1 + 1 + 1) [.int .i64 p0.1, .int .i64 p1.1, .int .i64 p2.1, .int .i64 p3.1] W ∧ Fl (w.heap.size + 1 + 1 + 1 + 1) p3.2 W) ⟨bel_new (L12) _ _ (by omega) _, Arr.new (q12) _ _ (by omega) _, Arr.new (m12) _ _ (by omega) _, Arr.new (A12) _ _ (by omega) _, Arr.new (D12) _ _ (by omega) _, Arr.put (H12) 3 (of_decide_eq_true rfl) (.int .i64 p3.1) [.int .i64 p0.1, .int .i64 p1.1, .int .i64 p2.1, .int .i64 p3.1] rfl, Fl.new (F12) _ _ (by omega) _⟩ ?_
  rintro W13 ⟨L13, q13, m13, A13, D13, H13, F13⟩
  have qz13 := q13.lies
  have mz13 := m13.lies
  have Az13 := A13.lies
  have Dz13 := D13.lies
  have Hz13 := H13.lies
  have Fz13 := F13.lies
  clear cH_3 gH_3
  clear L12 q12 m12 A12 D12 H12 F12 qz12 mz12 Az12 Dz12 Hz12 Fz12
  have cm_0 : W13.cell? ⟨w.heap.size + 1, 0, none⟩ = some (.int .i64 m.1) := m13.c 0 (of_decide_eq_true rfl)
  have cm_1 : W13.cell? ⟨w.heap.size + 1, 1, none⟩ = some (.int .i64 m.2.1) := m13.c 1 (of_decide_eq_true rfl)
  have cm_2 : W13.cell? ⟨w.heap.size + 1, 2, none⟩ = some (.int .i64 m.2.2) := m13.c 2 (of_decide_eq_true rfl)
  rw [rounds_succ]
  go_wp2_with fail
  refine wp_loop_rounds 4 ?_
  refine rounds_letter (S := fun W => Below w.heap.size w W ∧ Arr (w.heap.size) [.int .i64 q.1, .int .i64 q.2.1, .int .i64 q.2.2.1, .int .i64 q.2.2.2] W ∧ Arr (w.heap.size + 1) [.int .i64 m.1, .int .i64 m.2.1, .int .i64 m.2.2] W ∧ Arr (w.heap.size + 1 + 1) [.int .i64 0, .int .i64 0, .int .i64 0, .int .i64 0] W ∧ Arr (w.heap.size + 1 + 1 + 1) [.int .i64 0, .int .i64 0, .int .i64 0] W ∧ Arr (w.heap.size + 1 + 1 + 1 + 1 + 1) [.int .i64 p0.1, .int .i64 p1.1, .int .i64 p2.1, .int .i64 p3.1] W ∧ Arr (W13.heap.size) [.int .i64 0, .int .i64 0, .int .i64 0] W ∧ Fl (w.heap.size + 1 + 1 + 1 + 1) p3.2 W) ⟨bel_al L13 _, q13.alloc _, m13.alloc _, A13.alloc _, D13.alloc _, H13.alloc _, Arr_at _ _ [.int .i64 0, .int .i64 0, .int .i64 0] _ rfl, F13.alloc _⟩ ?_
  rintro W14 ⟨L14, q14, m14, A14, D14, H14, J14, F14⟩
  have qz14 := q14.lies
  have mz14 := m14.lies
  have Az14 := A14.lies
  have Dz14 := D14.lies
  have Hz14 := H14.lies
  have Jz14 := J14.lies
  have Fz14 := F14.lies
  clear cm_0 cm_1 cm_2
  have hv : w.heap.size + 1 + 1 + 1 + 1 + 1 < W13.heap.size := Hz13
  generalize W13.heap.size = vb at J14 Jz14 hv ⊢
  clear L13 q13 m13 A13 D13 H13 F13 qz13 mz13 Az13 Dz13 Hz13 Fz13
  rw [rounds_succ]
  go_wp2_with fail
  refine (Part_any (w.heap.size + 1 + 1 + 1 + 1) p3.2 m.1 10000 1099511627776 _ F14).mono ?_
  rintro e W15 ⟨rfl, F15, k⟩
  have L15 := k.on L14 (by omega)
  have q15 := q14.kept k (by omega)
  have m15 := m14.kept k (by omega)
  have A15 := A14.kept k (by omega)
  have D15 := D14.kept k (by omega)
  have H15 := H14.kept k (by omega)
  have J15 := J14.kept k (by omega)
  have qz15 := q15.lies
  have mz15 := m15.lies
  have Az15 := A15.lies
  have Dz15 := D15.lies
  have Hz15 := H15.lies
  have Jz15 := J15.lies
  have Fz15 := F15.lies
  clear k
  clear L14 q14 m14 A14 D14 H14 J14 F14 qz14 mz14 Az14 Dz14 Hz14 Jz14 Fz14
  generalize e4 : partS p3.2 m.1 10000 1099511627776 = r4 at F15 ⊢
  have E4 : Hid _ := e4
  clear e4
  go_wp2_with fail
  refine (tcount_any (w.heap.size + 1 + 1 + 1 + 1) r4.2 r4.1 _ F15).mono ?_
  rintro e W16 ⟨rfl, F16, k⟩
  have L16 := k.on L15 (by omega)
  have q16 := q15.kept k (by omega)
  have m16 := m15.kept k (by omega)
  have A16 := A15.kept k (by omega)
  have D16 := D15.kept k (by omega)
  have H16 := H15.kept k (by omega)
  have J16 := J15.kept k (by omega)
  have qz16 := q16.lies
  have mz16 := m16.lies
  have Az16 := A16.lies
  have Dz16 := D16.lies
  have Hz16 := H16.lies
  have Jz16 := J16.lies
  have Fz16 := F16.lies
  clear k
  clear L15 q15 m15 A15 D15 H15 J15 F15 qz15 mz15 Az15 Dz15 Hz15 Jz15 Fz15
  generalize g4 : cS (r4.1, r4.2) = p4 at F16 ⊢
  have P4 : Hid (cS r4 = p4) := g4
  clear g4
  have cJ_0 : W16.cell? ⟨vb, 0, none⟩ = some (.int .i64 0) := J16.c 0 (of_decide_eq_true rfl)
  have gJ_0 := J16.f 0 (of_decide_eq_true rfl)
  go_wp2_with fail
  refine rounds_letter (S := fun W => Below w.heap.size w W ∧ Arr (w.heap.size) [.int .i64 q.1, .int .i64 q.2.1, .int .i64 q.2.2.1, .int .i64 q.2.2.2] W ∧ Arr (w.heap.size + 1) [.int .i64 m.1, .int .i64 m.2.1, .int .i64 m.2.2] W ∧ Arr (w.heap.size + 1 + 1) [.int .i64 0, .int .i64 0, .int .i64 0, .int .i64 0] W ∧ Arr (w.heap.size + 1 + 1 + 1) [.int .i64 0, .int .i64 0, .int .i64 0] W ∧ Arr (w.heap.size + 1 + 1 + 1 + 1 + 1) [.int .i64 p0.1, .int .i64 p1.1, .int .i64 p2.1, .int .i64 p3.1] W ∧ Arr (vb) [.int .i64 p4.1, .int .i64 0, .int .i64 0] W ∧ Fl (w.heap.size + 1 + 1 + 1 + 1) p4.2 W) ⟨bel_new (L16) _ _ (by omega) _, Arr.new (q16) _ _ (by omega) _, Arr.new (m16) _ _ (by omega) _, Arr.new (A16) _ _ (by omega) _, Arr.new (D16) _ _ (by omega) _, Arr.new (H16) _ _ (by omega) _, Arr.put (J16) 0 (of_decide_eq_true rfl) (.int .i64 p4.1) [.int .i64 p4.1, .int .i64 0, .int .i64 0] rfl, Fl.new (F16) _ _ (by omega) _⟩ ?_
  rintro W17 ⟨L17, q17, m17, A17, D17, H17, J17, F17⟩
  have qz17 := q17.lies
  have mz17 := m17.lies
  have Az17 := A17.lies
  have Dz17 := D17.lies
  have Hz17 := H17.lies
  have Jz17 := J17.lies
  have Fz17 := F17.lies
  clear cJ_0 gJ_0
  clear L16 q16 m16 A16 D16 H16 J16 F16 qz16 mz16 Az16 Dz16 Hz16 Jz16 Fz16
  rw [rounds_succ]
  go_wp2_with fail
  refine (Part_any (w.heap.size + 1 + 1 + 1 + 1) p4.2 m.2.1 10000 1099511627776 _ F17).mono ?_
  rintro e W18 ⟨rfl, F18, k⟩
  have L18 := k.on L17 (by omega)
  have q18 := q17.kept k (by omega)
  have m18 := m17.kept k (by omega)
  have A18 := A17.kept k (by omega)
  have D18 := D17.kept k (by omega)
  have H18 := H17.kept k (by omega)
  have J18 := J17.kept k (by omega)
  have qz18 := q18.lies
  have mz18 := m18.lies
  have Az18 := A18.lies
  have Dz18 := D18.lies
  have Hz18 := H18.lies
  have Jz18 := J18.lies
  have Fz18 := F18.lies
  clear k
  clear L17 q17 m17 A17 D17 H17 J17 F17 qz17 mz17 Az17 Dz17 Hz17 Jz17 Fz17
  generalize e5 : partS p4.2 m.2.1 10000 1099511627776 = r5 at F18 ⊢
  have E5 : Hid _ := e5
  clear e5
  go_wp2_with fail
  refine (tcount_any (w.heap.size + 1 + 1 + 1 + 1) r5.2 r5.1 _ F18).mono ?_
  rintro e W19 ⟨rfl, F19, k⟩
  have L19 := k.on L18 (by omega)
  have q19 := q18.kept k (by omega)
  have m19 := m18.kept k (by omega)
  have A19 := A18.kept k (by omega)
  have D19 := D18.kept k (by omega)
  have H19 := H18.kept k (by omega)
  have J19 := J18.kept k (by omega)
  have qz19 := q19.lies
  have mz19 := m19.lies
  have Az19 := A19.lies
  have Dz19 := D19.lies
  have Hz19 := H19.lies
  have Jz19 := J19.lies
  have Fz19 := F19.lies
  clear k
  clear L18 q18 m18 A18 D18 H18 J18 F18 qz18 mz18 Az18 Dz18 Hz18 Jz18 Fz18
  generalize g5 : cS (r5.1, r5.2) = p5 at F19 ⊢
  have P5 : Hid (cS r5 = p5) := g5
  clear g5
  have cJ_1 : W19.cell? ⟨vb, 1, none⟩ = some (.int .i64 0) := J19.c 1 (of_decide_eq_true rfl)
  have gJ_1 := J19.f 1 (of_decide_eq_true rfl)
  go_wp2_with fail
  refine rounds_letter (S := fun W => Below w.heap.size w W ∧ Arr (w.heap.size) [.int .i64 q.1, .int .i64 q.2.1, .int .i64 q.2.2.1, .int .i64 q.2.2.2] W ∧ Arr (w.heap.size + 1) [.int .i64 m.1, .int .i64 m.2.1, .int .i64 m.2.2] W ∧ Arr (w.heap.size + 1 + 1) [.int .i64 0, .int .i64 0, .int .i64 0, .int .i64 0] W ∧ Arr (w.heap.size + 1 + 1 + 1) [.int .i64 0, .int .i64 0, .int .i64 0] W ∧ Arr (w.heap.size + 1 + 1 + 1 + 1 + 1) [.int .i64 p0.1, .int .i64 p1.1, .int .i64 p2.1, .int .i64 p3.1] W ∧ Arr (vb) [.int .i64 p4.1, .int .i64 p5.1, .int .i64 0] W ∧ Fl (w.heap.size + 1 + 1 + 1 + 1) p5.2 W) ⟨bel_new (L19) _ _ (by omega) _, Arr.new (q19) _ _ (by omega) _, Arr.new (m19) _ _ (by omega) _, Arr.new (A19) _ _ (by omega) _, Arr.new (D19) _ _ (by omega) _, Arr.new (H19) _ _ (by omega) _, Arr.put (J19) 1 (of_decide_eq_true rfl) (.int .i64 p5.1) [.int .i64 p4.1, .int .i64 p5.1, .int .i64 0] rfl, Fl.new (F19) _ _ (by omega) _⟩ ?_
  rintro W20 ⟨L20, q20, m20, A20, D20, H20, J20, F20⟩
  have qz20 := q20.lies
  have mz20 := m20.lies
  have Az20 := A20.lies
  have Dz20 := D20.lies
  have Hz20 := H20.lies
  have Jz20 := J20.lies
  have Fz20 := F20.lies
  clear cJ_1 gJ_1
  clear L19 q19 m19 A19 D19 H19 J19 F19 qz19 mz19 Az19 Dz19 Hz19 Jz19 Fz19
  rw [rounds_succ]
  go_wp2_with fail
  refine (Part_any (w.heap.size + 1 + 1 + 1 + 1) p5.2 m.2.2 10000 1099511627776 _ F20).mono ?_
  rintro e W21 ⟨rfl, F21, k⟩
  have L21 := k.on L20 (by omega)
  have q21 := q20.kept k (by omega)
  have m21 := m20.kept k (by omega)
  have A21 := A20.kept k (by omega)
  have D21 := D20.kept k (by omega)
  have H21 := H20.kept k (by omega)
  have J21 := J20.kept k (by omega)
  have qz21 := q21.lies
  have mz21 := m21.lies
  have Az21 := A21.lies
  have Dz21 := D21.lies
  have Hz21 := H21.lies
  have Jz21 := J21.lies
  have Fz21 := F21.lies
  clear k
  clear L20 q20 m20 A20 D20 H20 J20 F20 qz20 mz20 Az20 Dz20 Hz20 Jz20 Fz20
  generalize e6 : partS p5.2 m.2.2 10000 1099511627776 = r6 at F21 ⊢
  have E6 : Hid _ := e6
  clear e6
  go_wp2_with fail
  refine (tcount_any (w.heap.size + 1 + 1 + 1 + 1) r6.2 r6.1 _ F21).mono ?_
  rintro e W22 ⟨rfl, F22, k⟩
  have L22 := k.on L21 (by omega)
  have q22 := q21.kept k (by omega)
  have m22 := m21.kept k (by omega)
  have A22 := A21.kept k (by omega)
  have D22 := D21.kept k (by omega)
  have H22 := H21.kept k (by omega)
  have J22 := J21.kept k (by omega)
  have qz22 := q22.lies
  have mz22 := m22.lies
  have Az22 := A22.lies
  have Dz22 := D22.lies
  have Hz22 := H22.lies
  have Jz22 := J22.lies
  have Fz22 := F22.lies
  clear k
  clear L21 q21 m21 A21 D21 H21 J21 F21 qz21 mz21 Az21 Dz21 Hz21 Jz21 Fz21
  generalize g6 : cS (r6.1, r6.2) = p6 at F22 ⊢
  have P6 : Hid (cS r6 = p6) := g6
  clear g6
  have cJ_2 : W22.cell? ⟨vb, 2, none⟩ = some (.int .i64 0) := J22.c 2 (of_decide_eq_true rfl)
  have gJ_2 := J22.f 2 (of_decide_eq_true rfl)
  go_wp2_with fail
  refine rounds_letter (S := fun W => Below w.heap.size w W ∧ Arr (w.heap.size) [.int .i64 q.1, .int .i64 q.2.1, .int .i64 q.2.2.1, .int .i64 q.2.2.2] W ∧ Arr (w.heap.size + 1) [.int .i64 m.1, .int .i64 m.2.1, .int .i64 m.2.2] W ∧ Arr (w.heap.size + 1 + 1) [.int .i64 0, .int .i64 0, .int .i64 0, .int .i64 0] W ∧ Arr (w.heap.size + 1 + 1 + 1) [.int .i64 0, .int .i64 0, .int .i64 0] W ∧ Arr (w.heap.size + 1 + 1 + 1 + 1 + 1) [.int .i64 p0.1, .int .i64 p1.1, .int .i64 p2.1, .int .i64 p3.1] W ∧ Arr (vb) [.int .i64 p4.1, .int .i64 p5.1, .int .i64 p6.1] W ∧ Fl (w.heap.size + 1 + 1 + 1 + 1) p6.2 W) ⟨bel_new (L22) _ _ (by omega) _, Arr.new (q22) _ _ (by omega) _, Arr.new (m22) _ _ (by omega) _, Arr.new (A22) _ _ (by omega) _, Arr.new (D22) _ _ (by omega) _, Arr.new (H22) _ _ (by omega) _, Arr.put (J22) 2 (of_decide_eq_true rfl) (.int .i64 p6.1) [.int .i64 p4.1, .int .i64 p5.1, .int .i64 p6.1] rfl, Fl.new (F22) _ _ (by omega) _⟩ ?_
  rintro W23 ⟨L23, q23, m23, A23, D23, H23, J23, F23⟩
  have qz23 := q23.lies
  have mz23 := m23.lies
  have Az23 := A23.lies
  have Dz23 := D23.lies
  have Hz23 := H23.lies
  have Jz23 := J23.lies
  have Fz23 := F23.lies
  clear cJ_2 gJ_2
  clear L22 q22 m22 A22 D22 H22 J22 F22 qz22 mz22 Az22 Dz22 Hz22 Jz22 Fz22
  rw [rounds_succ]
  have HX : tlC q m = if p6.2 then ((0, 0, 0, 0), (0, 0, 0)) else ((p0.1, p1.1, p2.1, p3.1), (p4.1, p5.1, p6.1)) := by unfold tlC; simp only [E0.out, P0.out, E1.out, P1.out, E2.out, P2.out, E3.out, P3.out, E4.out, P4.out, E5.out, P5.out, E6.out, P6.out]
  have cF : W23.cell? ⟨w.heap.size + 1 + 1 + 1 + 1, 0, none⟩ = some (.bool p6.2) := F23.cell
  obtain ⟨z6, b6⟩ := p6
  dsimp only at *
  cases b6
  case true =>
    rw [if_pos rfl] at HX
    have cA_0 : W23.cell? ⟨w.heap.size + 1 + 1, 0, none⟩ = some (.int .i64 0) := A23.c 0 (of_decide_eq_true rfl)
    have gA_0 := A23.f 0 (of_decide_eq_true rfl)
    have cA_1 : W23.cell? ⟨w.heap.size + 1 + 1, 1, none⟩ = some (.int .i64 0) := A23.c 1 (of_decide_eq_true rfl)
    have gA_1 := A23.f 1 (of_decide_eq_true rfl)
    have cA_2 : W23.cell? ⟨w.heap.size + 1 + 1, 2, none⟩ = some (.int .i64 0) := A23.c 2 (of_decide_eq_true rfl)
    have gA_2 := A23.f 2 (of_decide_eq_true rfl)
    have cA_3 : W23.cell? ⟨w.heap.size + 1 + 1, 3, none⟩ = some (.int .i64 0) := A23.c 3 (of_decide_eq_true rfl)
    have gA_3 := A23.f 3 (of_decide_eq_true rfl)
    have cD_0 : W23.cell? ⟨w.heap.size + 1 + 1 + 1, 0, none⟩ = some (.int .i64 0) := D23.c 0 (of_decide_eq_true rfl)
    have gD_0 := D23.f 0 (of_decide_eq_true rfl)
    have cD_1 : W23.cell? ⟨w.heap.size + 1 + 1 + 1, 1, none⟩ = some (.int .i64 0) := D23.c 1 (of_decide_eq_true rfl)
    have gD_1 := D23.f 1 (of_decide_eq_true rfl)
    have cD_2 : W23.cell? ⟨w.heap.size + 1 + 1 + 1, 2, none⟩ = some (.int .i64 0) := D23.c 2 (of_decide_eq_true rfl)
    have gD_2 := D23.f 2 (of_decide_eq_true rfl)
    go_wp2_with (with_reducible refine post_stop ?_)
    have DA := (((((((A23.put 0 (of_decide_eq_true rfl) (.int .i64 0) [.int .i64 0, .int .i64 0, .int .i64 0, .int .i64 0] rfl).put 1 (of_decide_eq_true rfl) (.int .i64 0) [.int .i64 0, .int .i64 0, .int .i64 0, .int .i64 0] rfl).put 2 (of_decide_eq_true rfl) (.int .i64 0) [.int .i64 0, .int .i64 0, .int .i64 0, .int .i64 0] rfl).put 3 (of_decide_eq_true rfl) (.int .i64 0) [.int .i64 0, .int .i64 0, .int .i64 0, .int .i64 0] rfl).new (w.heap.size + 1 + 1 + 1) 0 (by omega) (.int .i64 0)).new (w.heap.size + 1 + 1 + 1) 1 (by omega) (.int .i64 0)).new (w.heap.size + 1 + 1 + 1) 2 (by omega) (.int .i64 0))
    have DD := (((((((D23.new (w.heap.size + 1 + 1) 0 (by omega) (.int .i64 0)).new (w.heap.size + 1 + 1) 1 (by omega) (.int .i64 0)).new (w.heap.size + 1 + 1) 2 (by omega) (.int .i64 0)).new (w.heap.size + 1 + 1) 3 (by omega) (.int .i64 0)).put 0 (of_decide_eq_true rfl) (.int .i64 0) [.int .i64 0, .int .i64 0, .int .i64 0] rfl).put 1 (of_decide_eq_true rfl) (.int .i64 0) [.int .i64 0, .int .i64 0, .int .i64 0] rfl).put 2 (of_decide_eq_true rfl) (.int .i64 0) [.int .i64 0, .int .i64 0, .int .i64 0] rfl)
    have da0 := DA.c 0 (of_decide_eq_true rfl)
    have da1 := DA.c 1 (of_decide_eq_true rfl)
    have da2 := DA.c 2 (of_decide_eq_true rfl)
    have da3 := DA.c 3 (of_decide_eq_true rfl)
    have dd0 := DD.c 0 (of_decide_eq_true rfl)
    have dd1 := DD.c 1 (of_decide_eq_true rfl)
    have dd2 := DD.c 2 (of_decide_eq_true rfl)
    simp only [List.getElem_cons_zero, List.getElem_cons_succ] at da0 da1 da2 da3 dd0 dd1 dd2
    exact ⟨bodyPost_ret (v := .tuple #[.agg #[.int .i64 0, .int .i64 0, .int .i64 0, .int .i64 0], .agg #[.int .i64 0, .int .i64 0, .int .i64 0]]) (by simp [results, Try.results11, asAddr, go_sem, da0, da1, da2, da3, dd0, dd1, dd2]) rfl ⟨by rw [HX], (bel_new (bel_new (bel_new (bel_new (bel_new (bel_new (bel_new L23 _ _ (by omega) _) _ _ (by omega) _) _ _ (by omega) _) _ _ (by omega) _) _ _ (by omega) _) _ _ (by omega) _) _ _ (by omega) _)⟩⟩
  rw [if_neg (by decide)] at HX
  have cA_0 : W23.cell? ⟨w.heap.size + 1 + 1, 0, none⟩ = some (.int .i64 0) := A23.c 0 (of_decide_eq_true rfl)
  have gA_0 := A23.f 0 (of_decide_eq_true rfl)
  have cA_1 : W23.cell? ⟨w.heap.size + 1 + 1, 1, none⟩ = some (.int .i64 0) := A23.c 1 (of_decide_eq_true rfl)
  have gA_1 := A23.f 1 (of_decide_eq_true rfl)
  have cA_2 : W23.cell? ⟨w.heap.size + 1 + 1, 2, none⟩ = some (.int .i64 0) := A23.c 2 (of_decide_eq_true rfl)
  have gA_2 := A23.f 2 (of_decide_eq_true rfl)
  have cA_3 : W23.cell? ⟨w.heap.size + 1 + 1, 3, none⟩ = some (.int .i64 0) := A23.c 3 (of_decide_eq_true rfl)
  have gA_3 := A23.f 3 (of_decide_eq_true rfl)
  have cD_0 : W23.cell? ⟨w.heap.size + 1 + 1 + 1, 0, none⟩ = some (.int .i64 0) := D23.c 0 (of_decide_eq_true rfl)
  have gD_0 := D23.f 0 (of_decide_eq_true rfl)
  have cD_1 : W23.cell? ⟨w.heap.size + 1 + 1 + 1, 1, none⟩ = some (.int .i64 0) := D23.c 1 (of_decide_eq_true rfl)
  have gD_1 := D23.f 1 (of_decide_eq_true rfl)
  have cD_2 : W23.cell? ⟨w.heap.size + 1 + 1 + 1, 2, none⟩ = some (.int .i64 0) := D23.c 2 (of_decide_eq_true rfl)
  have gD_2 := D23.f 2 (of_decide_eq_true rfl)
  have cH_0 : W23.cell? ⟨w.heap.size + 1 + 1 + 1 + 1 + 1, 0, none⟩ = some (.int .i64 p0.1) := H23.c 0 (of_decide_eq_true rfl)
  have cH_1 : W23.cell? ⟨w.heap.size + 1 + 1 + 1 + 1 + 1, 1, none⟩ = some (.int .i64 p1.1) := H23.c 1 (of_decide_eq_true rfl)
  have cH_2 : W23.cell? ⟨w.heap.size + 1 + 1 + 1 + 1 + 1, 2, none⟩ = some (.int .i64 p2.1) := H23.c 2 (of_decide_eq_true rfl)
  have cH_3 : W23.cell? ⟨w.heap.size + 1 + 1 + 1 + 1 + 1, 3, none⟩ = some (.int .i64 p3.1) := H23.c 3 (of_decide_eq_true rfl)
  have cJ_0 : W23.cell? ⟨vb, 0, none⟩ = some (.int .i64 p4.1) := J23.c 0 (of_decide_eq_true rfl)
  have cJ_1 : W23.cell? ⟨vb, 1, none⟩ = some (.int .i64 p5.1) := J23.c 1 (of_decide_eq_true rfl)
  have cJ_2 : W23.cell? ⟨vb, 2, none⟩ = some (.int .i64 z6) := J23.c 2 (of_decide_eq_true rfl)
  go_wp2_with fail
  go_region
  go_wp2_with (with_reducible refine post_stop ?_)
  have DA := (((((((A23.put 0 (of_decide_eq_true rfl) (.int .i64 p0.1) [.int .i64 p0.1, .int .i64 0, .int .i64 0, .int .i64 0] rfl).put 1 (of_decide_eq_true rfl) (.int .i64 p1.1) [.int .i64 p0.1, .int .i64 p1.1, .int .i64 0, .int .i64 0] rfl).put 2 (of_decide_eq_true rfl) (.int .i64 p2.1) [.int .i64 p0.1, .int .i64 p1.1, .int .i64 p2.1, .int .i64 0] rfl).put 3 (of_decide_eq_true rfl) (.int .i64 p3.1) [.int .i64 p0.1, .int .i64 p1.1, .int .i64 p2.1, .int .i64 p3.1] rfl).new (w.heap.size + 1 + 1 + 1) 0 (by omega) (.int .i64 p4.1)).new (w.heap.size + 1 + 1 + 1) 1 (by omega) (.int .i64 p5.1)).new (w.heap.size + 1 + 1 + 1) 2 (by omega) (.int .i64 z6))
  have DD := (((((((D23.new (w.heap.size + 1 + 1) 0 (by omega) (.int .i64 p0.1)).new (w.heap.size + 1 + 1) 1 (by omega) (.int .i64 p1.1)).new (w.heap.size + 1 + 1) 2 (by omega) (.int .i64 p2.1)).new (w.heap.size + 1 + 1) 3 (by omega) (.int .i64 p3.1)).put 0 (of_decide_eq_true rfl) (.int .i64 p4.1) [.int .i64 p4.1, .int .i64 0, .int .i64 0] rfl).put 1 (of_decide_eq_true rfl) (.int .i64 p5.1) [.int .i64 p4.1, .int .i64 p5.1, .int .i64 0] rfl).put 2 (of_decide_eq_true rfl) (.int .i64 z6) [.int .i64 p4.1, .int .i64 p5.1, .int .i64 z6] rfl)
  have da0 := DA.c 0 (of_decide_eq_true rfl)
  have da1 := DA.c 1 (of_decide_eq_true rfl)
  have da2 := DA.c 2 (of_decide_eq_true rfl)
  have da3 := DA.c 3 (of_decide_eq_true rfl)
  have dd0 := DD.c 0 (of_decide_eq_true rfl)
  have dd1 := DD.c 1 (of_decide_eq_true rfl)
  have dd2 := DD.c 2 (of_decide_eq_true rfl)
  simp only [List.getElem_cons_zero, List.getElem_cons_succ] at da0 da1 da2 da3 dd0 dd1 dd2
  exact ⟨bodyPost_ret (v := .tuple #[.agg #[.int .i64 p0.1, .int .i64 p1.1, .int .i64 p2.1, .int .i64 p3.1], .agg #[.int .i64 p4.1, .int .i64 p5.1, .int .i64 z6]]) (by simp [results, Try.results11, asAddr, go_sem, da0, da1, da2, da3, dd0, dd1, dd2]) rfl ⟨by rw [HX], (bel_drew (bel_new (bel_new (bel_new (bel_new (bel_new (bel_new (bel_new L23 _ _ (by omega) _) _ _ (by omega) _) _ _ (by omega) _) _ _ (by omega) _) _ _ (by omega) _) _ _ (by omega) _) _ _ (by omega) _))⟩⟩
end Go.Proofs.Ytchkedlfackfgaa
