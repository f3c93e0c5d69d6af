/-
  Telem: the document's Counts, walked, for the seat Ytchkedlfackfgaa. (Made by mktl.py.)
-/
import Derived.Test.YtchkedlfackfgaaTlCM
import Derived.Test.YtchkedlfackfgaaTlLeaf
import Derived.Test.YtchkedlfackfgaaVFold
import Derived.BigRegion
import Derived.Deep.Cut
namespace Go.Proofs.Ytchkedlfackfgaa
open Go.RowKit

set_option maxHeartbeats 4000000 in
set_option maxRecDepth 100000 in
theorem rtcounts_any (q : Int × Int × Int × Int) (m : V3) (w : World) :
    Calls Try.prog 12 #[.agg #[.int .i64 q.1, .int .i64 q.2.1, .int .i64 q.2.2.1, .int .i64 q.2.2.2], .agg #[.int .i64 m.1, .int .i64 m.2.1, .int .i64 m.2.2]] w fun e w' => e = .returned (.tuple #[.agg #[.int .i64 (tlD q m).1.1, .int .i64 (tlD q m).1.2.1, .int .i64 (tlD q m).1.2.2.1, .int .i64 (tlD q m).1.2.2.2], .agg #[.int .i64 (tlD q m).2.1, .int .i64 (tlD q m).2.2.1, .int .i64 (tlD q m).2.2.2]]) ∧ Below w.heap.size w w' := by
  go_enter Try.func12, Try.ntmps12
  go_wp2_with fail
  refine wp_loop_rounds 5 ?_
  refine rounds_letter (S := fun W => Below w.heap.size w W ∧ Arr (w.heap.size) [.int .i64 q.1, .int .i64 q.2.1, .int .i64 q.2.2.1, .int .i64 q.2.2.2] W ∧ Arr (w.heap.size + 1) [.int .i64 m.1, .int .i64 m.2.1, .int .i64 m.2.2] W ∧ Arr (w.heap.size + 1 + 1) [.int .i64 0, .int .i64 0, .int .i64 0, .int .i64 0] W ∧ Arr (w.heap.size + 1 + 1 + 1) [.int .i64 0, .int .i64 0, .int .i64 0] W ∧ Arr (w.heap.size + 1 + 1 + 1 + 1 + 1) [.int .i64 0, .int .i64 0, .int .i64 0, .int .i64 0] W ∧ Arr (w.heap.size + 1 + 1 + 1 + 1 + 1 + 1) [.int .i64 0, .int .i64 0, .int .i64 0] W ∧ Fl (w.heap.size + 1 + 1 + 1 + 1) false W) ⟨bel_al (bel_al (bel_al (bel_al (bel_al (bel_al (bel_al (Below.refl _ _) _) _) _) _) _) _) _, Arr.alloc (Arr.alloc (Arr.alloc (Arr.alloc (Arr.alloc (Arr.alloc (Arr_at w (w.heap.size) [.int .i64 q.1, .int .i64 q.2.1, .int .i64 q.2.2.1, .int .i64 q.2.2.2] _ rfl) _) _) _) _) _) _, Arr.alloc (Arr.alloc (Arr.alloc (Arr.alloc (Arr.alloc (Arr_at _ (w.heap.size + 1) [.int .i64 m.1, .int .i64 m.2.1, .int .i64 m.2.2] _ (by simp)) _) _) _) _) _, Arr.alloc (Arr.alloc (Arr.alloc (Arr.alloc (Arr_at _ (w.heap.size + 1 + 1) [.int .i64 0, .int .i64 0, .int .i64 0, .int .i64 0] _ (by simp)) _) _) _) _, Arr.alloc (Arr.alloc (Arr.alloc (Arr_at _ (w.heap.size + 1 + 1 + 1) [.int .i64 0, .int .i64 0, .int .i64 0] _ (by simp)) _) _) _, Arr.alloc (Arr_at _ (w.heap.size + 1 + 1 + 1 + 1 + 1) [.int .i64 0, .int .i64 0, .int .i64 0, .int .i64 0] _ (by simp)) _, Arr_at _ (w.heap.size + 1 + 1 + 1 + 1 + 1 + 1) [.int .i64 0, .int .i64 0, .int .i64 0] _ (by simp), Fl.alloc (Fl.alloc (Fl_at _ (w.heap.size + 1 + 1 + 1 + 1) false _ (by simp)) _) _⟩ ?_
  rintro W1 ⟨L1, q1, m1, A1, D1, H1, J1, F1⟩
  have qz1 := q1.lies
  have mz1 := m1.lies
  have Az1 := A1.lies
  have Dz1 := D1.lies
  have Hz1 := H1.lies
  have Jz1 := J1.lies
  have Fz1 := F1.lies
  rw [rounds_succ]
  have cq_0 : W1.cell? ⟨w.heap.size, 0, none⟩ = some (.int .i64 q.1) := q1.c 0 (of_decide_eq_true rfl)
  go_wp2_with fail
  refine (rPart_any (w.heap.size + 1 + 1 + 1 + 1) false q.1 1 67108864 _ F1).mono ?_
  rintro e W2 ⟨rfl, F2, k⟩
  have L2 := k.on L1 (by omega)
  have q2 := q1.kept k (by omega)
  have m2 := m1.kept k (by omega)
  have A2 := A1.kept k (by omega)
  have D2 := D1.kept k (by omega)
  have H2 := H1.kept k (by omega)
  have J2 := J1.kept k (by omega)
  have qz2 := q2.lies
  have mz2 := m2.lies
  have Az2 := A2.lies
  have Dz2 := D2.lies
  have Hz2 := H2.lies
  have Jz2 := J2.lies
  have Fz2 := F2.lies
  clear k
  clear L1 q1 m1 A1 D1 H1 J1 F1 qz1 mz1 Az1 Dz1 Hz1 Jz1 Fz1
  clear cq_0
  generalize e0 : partS false q.1 1 67108864 = r0 at F2 ⊢
  have E0 : Hid _ := e0
  clear e0
  obtain ⟨b0, hb0⟩ : ∃ b, inR r0.1 (-32768) 32767 = b := ⟨_, rfl⟩
  have B0 : Hid (inR r0.1 (-32768) 32767 = b0) := hb0
  clear hb0
  go_upto_region 9 with fail
  go_cut [9] from 14 (fun ov wc => ov = .bool b0 ∧ wc = W2)
  case first =>
    rcases (show r0.1 < -32768 ∨ (-32768 ≤ r0.1 ∧ 32767 < r0.1) ∨ (-32768 ≤ r0.1 ∧ r0.1 ≤ 32767) by omega) with h1 | ⟨h1, h2⟩ | ⟨h1, h2⟩ <;> (go_wp2_with fail; go_meet; case rel => exact ⟨by rw [← B0.out]; unfold inR; simp <;> omega, rfl⟩)
  obtain ⟨rfl, hwc⟩ := hcut
  rw [hwc]
  clear hwc
  have cH_0 : W2.cell? ⟨w.heap.size + 1 + 1 + 1 + 1 + 1, 0, none⟩ = some (.int .i64 0) := H2.c 0 (of_decide_eq_true rfl)
  have gH_0 := H2.f 0 (of_decide_eq_true rfl)
  go_wp2_with fail
  refine rounds_letter (S := fun W => Below w.heap.size w W ∧ Arr (w.heap.size) [.int .i64 q.1, .int .i64 q.2.1, .int .i64 q.2.2.1, .int .i64 q.2.2.2] W ∧ Arr (w.heap.size + 1) [.int .i64 m.1, .int .i64 m.2.1, .int .i64 m.2.2] W ∧ Arr (w.heap.size + 1 + 1) [.int .i64 0, .int .i64 0, .int .i64 0, .int .i64 0] W ∧ Arr (w.heap.size + 1 + 1 + 1) [.int .i64 0, .int .i64 0, .int .i64 0] W ∧ Arr (w.heap.size + 1 + 1 + 1 + 1 + 1) [.int .i64 r0.1, .int .i64 0, .int .i64 0, .int .i64 0] W ∧ Arr (w.heap.size + 1 + 1 + 1 + 1 + 1 + 1) [.int .i64 0, .int .i64 0, .int .i64 0] W ∧ Fl (w.heap.size + 1 + 1 + 1 + 1) r0.2 W) ⟨bel_new (L2) _ _ (by omega) _, Arr.new (q2) _ _ (by omega) _, Arr.new (m2) _ _ (by omega) _, Arr.new (A2) _ _ (by omega) _, Arr.new (D2) _ _ (by omega) _, Arr.put (H2) 0 (of_decide_eq_true rfl) (.int .i64 r0.1) [.int .i64 r0.1, .int .i64 0, .int .i64 0, .int .i64 0] rfl, Arr.new (J2) _ _ (by omega) _, Fl.new (F2) _ _ (by omega) _⟩ ?_
  rintro W3 ⟨L3, q3, m3, A3, D3, H3, J3, F3⟩
  have qz3 := q3.lies
  have mz3 := m3.lies
  have Az3 := A3.lies
  have Dz3 := D3.lies
  have Hz3 := H3.lies
  have Jz3 := J3.lies
  have Fz3 := F3.lies
  clear cH_0 gH_0
  clear L2 q2 m2 A2 D2 H2 J2 F2 qz2 mz2 Az2 Dz2 Hz2 Jz2 Fz2
  rw [rounds_succ]
  have cq_1 : W3.cell? ⟨w.heap.size, 1, none⟩ = some (.int .i64 q.2.1) := q3.c 1 (of_decide_eq_true rfl)
  go_wp2_with fail
  refine (rPart_any (w.heap.size + 1 + 1 + 1 + 1) r0.2 q.2.1 1 67108864 _ F3).mono ?_
  rintro e W4 ⟨rfl, F4, k⟩
  have L4 := k.on L3 (by omega)
  have q4 := q3.kept k (by omega)
  have m4 := m3.kept k (by omega)
  have A4 := A3.kept k (by omega)
  have D4 := D3.kept k (by omega)
  have H4 := H3.kept k (by omega)
  have J4 := J3.kept k (by omega)
  have qz4 := q4.lies
  have mz4 := m4.lies
  have Az4 := A4.lies
  have Dz4 := D4.lies
  have Hz4 := H4.lies
  have Jz4 := J4.lies
  have Fz4 := F4.lies
  clear k
  clear L3 q3 m3 A3 D3 H3 J3 F3 qz3 mz3 Az3 Dz3 Hz3 Jz3 Fz3
  clear cq_1
  generalize e1 : partS r0.2 q.2.1 1 67108864 = r1 at F4 ⊢
  have E1 : Hid _ := e1
  clear e1
  obtain ⟨b1, hb1⟩ : ∃ b, (b0 && inR r1.1 (-32768) 32767) = b := ⟨_, rfl⟩
  have B1 : Hid ((b0 && inR r1.1 (-32768) 32767) = b1) := hb1
  clear hb1
  go_upto_region 9 with fail
  go_cut [9] from 14 (fun ov wc => ov = .bool b1 ∧ wc = W4)
  case first =>
    cases b0 <;> rcases (show r1.1 < -32768 ∨ (-32768 ≤ r1.1 ∧ 32767 < r1.1) ∨ (-32768 ≤ r1.1 ∧ r1.1 ≤ 32767) by omega) with h1 | ⟨h1, h2⟩ | ⟨h1, h2⟩ <;> (go_wp2_with fail; go_meet; case rel => exact ⟨by rw [← B1.out]; unfold inR; simp <;> omega, rfl⟩)
  obtain ⟨rfl, hwc⟩ := hcut
  rw [hwc]
  clear hwc
  have cH_1 : W4.cell? ⟨w.heap.size + 1 + 1 + 1 + 1 + 1, 1, none⟩ = some (.int .i64 0) := H4.c 1 (of_decide_eq_true rfl)
  have gH_1 := H4.f 1 (of_decide_eq_true rfl)
  go_wp2_with fail
  refine rounds_letter (S := fun W => Below w.heap.size w W ∧ Arr (w.heap.size) [.int .i64 q.1, .int .i64 q.2.1, .int .i64 q.2.2.1, .int .i64 q.2.2.2] W ∧ Arr (w.heap.size + 1) [.int .i64 m.1, .int .i64 m.2.1, .int .i64 m.2.2] W ∧ Arr (w.heap.size + 1 + 1) [.int .i64 0, .int .i64 0, .int .i64 0, .int .i64 0] W ∧ Arr (w.heap.size + 1 + 1 + 1) [.int .i64 0, .int .i64 0, .int .i64 0] W ∧ Arr (w.heap.size + 1 + 1 + 1 + 1 + 1) [.int .i64 r0.1, .int .i64 r1.1, .int .i64 0, .int .i64 0] W ∧ Arr (w.heap.size + 1 + 1 + 1 + 1 + 1 + 1) [.int .i64 0, .int .i64 0, .int .i64 0] W ∧ Fl (w.heap.size + 1 + 1 + 1 + 1) r1.2 W) ⟨bel_new (L4) _ _ (by omega) _, Arr.new (q4) _ _ (by omega) _, Arr.new (m4) _ _ (by omega) _, Arr.new (A4) _ _ (by omega) _, Arr.new (D4) _ _ (by omega) _, Arr.put (H4) 1 (of_decide_eq_true rfl) (.int .i64 r1.1) [.int .i64 r0.1, .int .i64 r1.1, .int .i64 0, .int .i64 0] rfl, Arr.new (J4) _ _ (by omega) _, Fl.new (F4) _ _ (by omega) _⟩ ?_
  rintro W5 ⟨L5, q5, m5, A5, D5, H5, J5, F5⟩
  have qz5 := q5.lies
  have mz5 := m5.lies
  have Az5 := A5.lies
  have Dz5 := D5.lies
  have Hz5 := H5.lies
  have Jz5 := J5.lies
  have Fz5 := F5.lies
  clear cH_1 gH_1
  clear L4 q4 m4 A4 D4 H4 J4 F4 qz4 mz4 Az4 Dz4 Hz4 Jz4 Fz4
  rw [rounds_succ]
  have cq_2 : W5.cell? ⟨w.heap.size, 2, none⟩ = some (.int .i64 q.2.2.1) := q5.c 2 (of_decide_eq_true rfl)
  go_wp2_with fail
  refine (rPart_any (w.heap.size + 1 + 1 + 1 + 1) r1.2 q.2.2.1 1 67108864 _ F5).mono ?_
  rintro e W6 ⟨rfl, F6, k⟩
  have L6 := k.on L5 (by omega)
  have q6 := q5.kept k (by omega)
  have m6 := m5.kept k (by omega)
  have A6 := A5.kept k (by omega)
  have D6 := D5.kept k (by omega)
  have H6 := H5.kept k (by omega)
  have J6 := J5.kept k (by omega)
  have qz6 := q6.lies
  have mz6 := m6.lies
  have Az6 := A6.lies
  have Dz6 := D6.lies
  have Hz6 := H6.lies
  have Jz6 := J6.lies
  have Fz6 := F6.lies
  clear k
  clear L5 q5 m5 A5 D5 H5 J5 F5 qz5 mz5 Az5 Dz5 Hz5 Jz5 Fz5
  clear cq_2
  generalize e2 : partS r1.2 q.2.2.1 1 67108864 = r2 at F6 ⊢
  have E2 : Hid _ := e2
  clear e2
  obtain ⟨b2, hb2⟩ : ∃ b, (b1 && inR r2.1 (-32768) 32767) = b := ⟨_, rfl⟩
  have B2 : Hid ((b1 && inR r2.1 (-32768) 32767) = b2) := hb2
  clear hb2
  go_upto_region 9 with fail
  go_cut [9] from 14 (fun ov wc => ov = .bool b2 ∧ wc = W6)
  case first =>
    cases b1 <;> rcases (show r2.1 < -32768 ∨ (-32768 ≤ r2.1 ∧ 32767 < r2.1) ∨ (-32768 ≤ r2.1 ∧ r2.1 ≤ 32767) by omega) with h1 | ⟨h1, h2⟩ | ⟨h1, h2⟩ <;> (go_wp2_with fail; go_meet; case rel => exact ⟨by rw [← B2.out]; unfold inR; simp <;> omega, rfl⟩)
  obtain ⟨rfl, hwc⟩ := hcut
  rw [hwc]
  clear hwc
  have cH_2 : W6.cell? ⟨w.heap.size + 1 + 1 + 1 + 1 + 1, 2, none⟩ = some (.int .i64 0) := H6.c 2 (of_decide_eq_true rfl)
  have gH_2 := H6.f 2 (of_decide_eq_true rfl)
  go_wp2_with fail
  refine rounds_letter (S := fun W => Below w.heap.size w W ∧ Arr (w.heap.size) [.int .i64 q.1, .int .i64 q.2.1, .int .i64 q.2.2.1, .int .i64 q.2.2.2] W ∧ Arr (w.heap.size + 1) [.int .i64 m.1, .int .i64 m.2.1, .int .i64 m.2.2] W ∧ Arr (w.heap.size + 1 + 1) [.int .i64 0, .int .i64 0, .int .i64 0, .int .i64 0] W ∧ Arr (w.heap.size + 1 + 1 + 1) [.int .i64 0, .int .i64 0, .int .i64 0] W ∧ Arr (w.heap.size + 1 + 1 + 1 + 1 + 1) [.int .i64 r0.1, .int .i64 r1.1, .int .i64 r2.1, .int .i64 0] W ∧ Arr (w.heap.size + 1 + 1 + 1 + 1 + 1 + 1) [.int .i64 0, .int .i64 0, .int .i64 0] W ∧ Fl (w.heap.size + 1 + 1 + 1 + 1) r2.2 W) ⟨bel_new (L6) _ _ (by omega) _, Arr.new (q6) _ _ (by omega) _, Arr.new (m6) _ _ (by omega) _, Arr.new (A6) _ _ (by omega) _, Arr.new (D6) _ _ (by omega) _, Arr.put (H6) 2 (of_decide_eq_true rfl) (.int .i64 r2.1) [.int .i64 r0.1, .int .i64 r1.1, .int .i64 r2.1, .int .i64 0] rfl, Arr.new (J6) _ _ (by omega) _, Fl.new (F6) _ _ (by omega) _⟩ ?_
  rintro W7 ⟨L7, q7, m7, A7, D7, H7, J7, F7⟩
  have qz7 := q7.lies
  have mz7 := m7.lies
  have Az7 := A7.lies
  have Dz7 := D7.lies
  have Hz7 := H7.lies
  have Jz7 := J7.lies
  have Fz7 := F7.lies
  clear cH_2 gH_2
  clear L6 q6 m6 A6 D6 H6 J6 F6 qz6 mz6 Az6 Dz6 Hz6 Jz6 Fz6
  rw [rounds_succ]
  have cq_3 : W7.cell? ⟨w.heap.size, 3, none⟩ = some (.int .i64 q.2.2.2) := q7.c 3 (of_decide_eq_true rfl)
  go_wp2_with fail
  refine (rPart_any (w.heap.size + 1 + 1 + 1 + 1) r2.2 q.2.2.2 1 67108864 _ F7).mono ?_
  rintro e W8 ⟨rfl, F8, k⟩
  have L8 := k.on L7 (by omega)
  have q8 := q7.kept k (by omega)
  have m8 := m7.kept k (by omega)
  have A8 := A7.kept k (by omega)
  have D8 := D7.kept k (by omega)
  have H8 := H7.kept k (by omega)
  have J8 := J7.kept k (by omega)
  have qz8 := q8.lies
  have mz8 := m8.lies
  have Az8 := A8.lies
  have Dz8 := D8.lies
  have Hz8 := H8.lies
  have Jz8 := J8.lies
  have Fz8 := F8.lies
  clear k
  clear L7 q7 m7 A7 D7 H7 J7 F7 qz7 mz7 Az7 Dz7 Hz7 Jz7 Fz7
  clear cq_3
  generalize e3 : partS r2.2 q.2.2.2 1 67108864 = r3 at F8 ⊢
  have E3 : Hid _ := e3
  clear e3
  obtain ⟨b3, hb3⟩ : ∃ b, (b2 && inR r3.1 (-32768) 32767) = b := ⟨_, rfl⟩
  have B3 : Hid ((b2 && inR r3.1 (-32768) 32767) = b3) := hb3
  clear hb3
  go_upto_region 9 with fail
  go_cut [9] from 14 (fun ov wc => ov = .bool b3 ∧ wc = W8)
  case first =>
    cases b2 <;> rcases (show r3.1 < -32768 ∨ (-32768 ≤ r3.1 ∧ 32767 < r3.1) ∨ (-32768 ≤ r3.1 ∧ r3.1 ≤ 32767) by omega) with h1 | ⟨h1, h2⟩ | ⟨h1, h2⟩ <;> (go_wp2_with fail; go_meet; case rel => exact ⟨by rw [← B3.out]; unfold inR; simp <;> omega, rfl⟩)
  obtain ⟨rfl, hwc⟩ := hcut
  rw [hwc]
  clear hwc
  have cH_3 : W8.cell? ⟨w.heap.size + 1 + 1 + 1 + 1 + 1, 3, none⟩ = some (.int .i64 0) := H8.c 3 (of_decide_eq_true rfl)
  have gH_3 := H8.f 3 (of_decide_eq_true rfl)
  go_wp2_with fail
  refine rounds_letter (S := fun W => Below w.heap.size w W ∧ Arr (w.heap.size) [.int .i64 q.1, .int .i64 q.2.1, .int .i64 q.2.2.1, .int .i64 q.2.2.2] W ∧ Arr (w.heap.size + 1) [.int .i64 m.1, .int .i64 m.2.1, .int .i64 m.2.2] W ∧ Arr (w.heap.size + 1 + 1) [.int .i64 0, .int .i64 0, .int .i64 0, .int .i64 0] W ∧ Arr (w.heap.size + 1 + 1 + 1) [.int .i64 0, .int .i64 0, .int .i64 0] W ∧ Arr (w.heap.size + 1 + 1 + 1 + 1 + 1) [.int .i64 r0.1, .int .i64 r1.1, .int .i64 r2.1, .int .i64 r3.1] W ∧ Arr (w.heap.size + 1 + 1 + 1 + 1 + 1 + 1) [.int .i64 0, .int .i64 0, .int .i64 0] W ∧ Fl (w.heap.size + 1 + 1 + 1 + 1) r3.2 W) ⟨bel_new (L8) _ _ (by omega) _, Arr.new (q8) _ _ (by omega) _, Arr.new (m8) _ _ (by omega) _, Arr.new (A8) _ _ (by omega) _, Arr.new (D8) _ _ (by omega) _, Arr.put (H8) 3 (of_decide_eq_true rfl) (.int .i64 r3.1) [.int .i64 r0.1, .int .i64 r1.1, .int .i64 r2.1, .int .i64 r3.1] rfl, Arr.new (J8) _ _ (by omega) _, Fl.new (F8) _ _ (by omega) _⟩ ?_
  rintro W9 ⟨L9, q9, m9, A9, D9, H9, J9, F9⟩
  have qz9 := q9.lies
  have mz9 := m9.lies
  have Az9 := A9.lies
  have Dz9 := D9.lies
  have Hz9 := H9.lies
  have Jz9 := J9.lies
  have Fz9 := F9.lies
  clear cH_3 gH_3
  clear L8 q8 m8 A8 D8 H8 J8 F8 qz8 mz8 Az8 Dz8 Hz8 Jz8 Fz8
  rw [rounds_succ]
  go_wp2_with fail
  refine wp_loop_rounds 4 ?_
  rw [rounds_succ]
  have cm_0 : W9.cell? ⟨w.heap.size + 1, 0, none⟩ = some (.int .i64 m.1) := m9.c 0 (of_decide_eq_true rfl)
  go_wp2_with fail
  refine (rPart_any (w.heap.size + 1 + 1 + 1 + 1) r3.2 m.1 10000 1099511627776 _ F9).mono ?_
  rintro e W10 ⟨rfl, F10, k⟩
  have L10 := k.on L9 (by omega)
  have q10 := q9.kept k (by omega)
  have m10 := m9.kept k (by omega)
  have A10 := A9.kept k (by omega)
  have D10 := D9.kept k (by omega)
  have H10 := H9.kept k (by omega)
  have J10 := J9.kept k (by omega)
  have qz10 := q10.lies
  have mz10 := m10.lies
  have Az10 := A10.lies
  have Dz10 := D10.lies
  have Hz10 := H10.lies
  have Jz10 := J10.lies
  have Fz10 := F10.lies
  clear k
  clear L9 q9 m9 A9 D9 H9 J9 F9 qz9 mz9 Az9 Dz9 Hz9 Jz9 Fz9
  clear cm_0
  generalize e4 : partS r3.2 m.1 10000 1099511627776 = r4 at F10 ⊢
  have E4 : Hid _ := e4
  clear e4
  obtain ⟨b4, hb4⟩ : ∃ b, (b3 && inR r4.1 (-32768) 32767) = b := ⟨_, rfl⟩
  have B4 : Hid ((b3 && inR r4.1 (-32768) 32767) = b4) := hb4
  clear hb4
  go_upto_region 15 with fail
  go_cut [9] from 14 (fun ov wc => ov = .bool b4 ∧ wc = W10)
  case first =>
    cases b3 <;> rcases (show r4.1 < -32768 ∨ (-32768 ≤ r4.1 ∧ 32767 < r4.1) ∨ (-32768 ≤ r4.1 ∧ r4.1 ≤ 32767) by omega) with h1 | ⟨h1, h2⟩ | ⟨h1, h2⟩ <;> (go_wp2_with fail; go_meet; case rel => exact ⟨by rw [← B4.out]; unfold inR; simp <;> omega, rfl⟩)
  obtain ⟨rfl, hwc⟩ := hcut
  rw [hwc]
  clear hwc
  have cJ_0 : W10.cell? ⟨w.heap.size + 1 + 1 + 1 + 1 + 1 + 1, 0, none⟩ = some (.int .i64 0) := J10.c 0 (of_decide_eq_true rfl)
  have gJ_0 := J10.f 0 (of_decide_eq_true rfl)
  go_wp2_with fail
  refine rounds_letter (S := fun W => Below w.heap.size w W ∧ Arr (w.heap.size) [.int .i64 q.1, .int .i64 q.2.1, .int .i64 q.2.2.1, .int .i64 q.2.2.2] W ∧ Arr (w.heap.size + 1) [.int .i64 m.1, .int .i64 m.2.1, .int .i64 m.2.2] W ∧ Arr (w.heap.size + 1 + 1) [.int .i64 0, .int .i64 0, .int .i64 0, .int .i64 0] W ∧ Arr (w.heap.size + 1 + 1 + 1) [.int .i64 0, .int .i64 0, .int .i64 0] W ∧ Arr (w.heap.size + 1 + 1 + 1 + 1 + 1) [.int .i64 r0.1, .int .i64 r1.1, .int .i64 r2.1, .int .i64 r3.1] W ∧ Arr (w.heap.size + 1 + 1 + 1 + 1 + 1 + 1) [.int .i64 r4.1, .int .i64 0, .int .i64 0] W ∧ Fl (w.heap.size + 1 + 1 + 1 + 1) r4.2 W) ⟨bel_new (L10) _ _ (by omega) _, Arr.new (q10) _ _ (by omega) _, Arr.new (m10) _ _ (by omega) _, Arr.new (A10) _ _ (by omega) _, Arr.new (D10) _ _ (by omega) _, Arr.new (H10) _ _ (by omega) _, Arr.put (J10) 0 (of_decide_eq_true rfl) (.int .i64 r4.1) [.int .i64 r4.1, .int .i64 0, .int .i64 0] rfl, Fl.new (F10) _ _ (by omega) _⟩ ?_
  rintro W11 ⟨L11, q11, m11, A11, D11, H11, J11, F11⟩
  have qz11 := q11.lies
  have mz11 := m11.lies
  have Az11 := A11.lies
  have Dz11 := D11.lies
  have Hz11 := H11.lies
  have Jz11 := J11.lies
  have Fz11 := F11.lies
  clear cJ_0 gJ_0
  clear L10 q10 m10 A10 D10 H10 J10 F10 qz10 mz10 Az10 Dz10 Hz10 Jz10 Fz10
  rw [rounds_succ]
  have cm_1 : W11.cell? ⟨w.heap.size + 1, 1, none⟩ = some (.int .i64 m.2.1) := m11.c 1 (of_decide_eq_true rfl)
  go_wp2_with fail
  refine (rPart_any (w.heap.size + 1 + 1 + 1 + 1) r4.2 m.2.1 10000 1099511627776 _ F11).mono ?_
  rintro e W12 ⟨rfl, F12, k⟩
  have L12 := k.on L11 (by omega)
  have q12 := q11.kept k (by omega)
  have m12 := m11.kept k (by omega)
  have A12 := A11.kept k (by omega)
  have D12 := D11.kept k (by omega)
  have H12 := H11.kept k (by omega)
  have J12 := J11.kept k (by omega)
  have qz12 := q12.lies
  have mz12 := m12.lies
  have Az12 := A12.lies
  have Dz12 := D12.lies
  have Hz12 := H12.lies
  have Jz12 := J12.lies
  have Fz12 := F12.lies
  clear k
  clear L11 q11 m11 A11 D11 H11 J11 F11 qz11 mz11 Az11 Dz11 Hz11 Jz11 Fz11
  clear cm_1
  generalize e5 : partS r4.2 m.2.1 10000 1099511627776 = r5 at F12 ⊢
  have E5 : Hid _ := e5
  clear e5
  obtain ⟨b5, hb5⟩ : ∃ b, (b4 && inR r5.1 (-32768) 32767) = b := ⟨_, rfl⟩
  have B5 : Hid ((b4 && inR r5.1 (-32768) 32767) = b5) := hb5
  clear hb5
  go_upto_region 15 with fail
  go_cut [9] from 14 (fun ov wc => ov = .bool b5 ∧ wc = W12)
  case first =>
    cases b4 <;> rcases (show r5.1 < -32768 ∨ (-32768 ≤ r5.1 ∧ 32767 < r5.1) ∨ (-32768 ≤ r5.1 ∧ r5.1 ≤ 32767) by omega) with h1 | ⟨h1, h2⟩ | ⟨h1, h2⟩ <;> (go_wp2_with fail; go_meet; case rel => exact ⟨by rw [← B5.out]; unfold inR; simp <;> omega, rfl⟩)
  obtain ⟨rfl, hwc⟩ := hcut
  rw [hwc]
  clear hwc
  have cJ_1 : W12.cell? ⟨w.heap.size + 1 + 1 + 1 + 1 + 1 + 1, 1, none⟩ = some (.int .i64 0) := J12.c 1 (of_decide_eq_true rfl)
  have gJ_1 := J12.f 1 (of_decide_eq_true rfl)
  go_wp2_with fail
  refine rounds_letter (S := fun W => Below w.heap.size w W ∧ Arr (w.heap.size) [.int .i64 q.1, .int .i64 q.2.1, .int .i64 q.2.2.1, .int .i64 q.2.2.2] W ∧ Arr (w.heap.size + 1) [.int .i64 m.1, .int .i64 m.2.1, .int .i64 m.2.2] W ∧ Arr (w.heap.size + 1 + 1) [.int .i64 0, .int .i64 0, .int .i64 0, .int .i64 0] W ∧ Arr (w.heap.size + 1 + 1 + 1) [.int .i64 0, .int .i64 0, .int .i64 0] W ∧ Arr (w.heap.size + 1 + 1 + 1 + 1 + 1) [.int .i64 r0.1, .int .i64 r1.1, .int .i64 r2.1, .int .i64 r3.1] W ∧ Arr (w.heap.size + 1 + 1 + 1 + 1 + 1 + 1) [.int .i64 r4.1, .int .i64 r5.1, .int .i64 0] W ∧ Fl (w.heap.size + 1 + 1 + 1 + 1) r5.2 W) ⟨bel_new (L12) _ _ (by omega) _, Arr.new (q12) _ _ (by omega) _, Arr.new (m12) _ _ (by omega) _, Arr.new (A12) _ _ (by omega) _, Arr.new (D12) _ _ (by omega) _, Arr.new (H12) _ _ (by omega) _, Arr.put (J12) 1 (of_decide_eq_true rfl) (.int .i64 r5.1) [.int .i64 r4.1, .int .i64 r5.1, .int .i64 0] rfl, Fl.new (F12) _ _ (by omega) _⟩ ?_
  rintro W13 ⟨L13, q13, m13, A13, D13, H13, J13, F13⟩
  have qz13 := q13.lies
  have mz13 := m13.lies
  have Az13 := A13.lies
  have Dz13 := D13.lies
  have Hz13 := H13.lies
  have Jz13 := J13.lies
  have Fz13 := F13.lies
  clear cJ_1 gJ_1
  clear L12 q12 m12 A12 D12 H12 J12 F12 qz12 mz12 Az12 Dz12 Hz12 Jz12 Fz12
  rw [rounds_succ]
  have cm_2 : W13.cell? ⟨w.heap.size + 1, 2, none⟩ = some (.int .i64 m.2.2) := m13.c 2 (of_decide_eq_true rfl)
  go_wp2_with fail
  refine (rPart_any (w.heap.size + 1 + 1 + 1 + 1) r5.2 m.2.2 10000 1099511627776 _ F13).mono ?_
  rintro e W14 ⟨rfl, F14, k⟩
  have L14 := k.on L13 (by omega)
  have q14 := q13.kept k (by omega)
  have m14 := m13.kept k (by omega)
  have A14 := A13.kept k (by omega)
  have D14 := D13.kept k (by omega)
  have H14 := H13.kept k (by omega)
  have J14 := J13.kept k (by omega)
  have qz14 := q14.lies
  have mz14 := m14.lies
  have Az14 := A14.lies
  have Dz14 := D14.lies
  have Hz14 := H14.lies
  have Jz14 := J14.lies
  have Fz14 := F14.lies
  clear k
  clear L13 q13 m13 A13 D13 H13 J13 F13 qz13 mz13 Az13 Dz13 Hz13 Jz13 Fz13
  clear cm_2
  generalize e6 : partS r5.2 m.2.2 10000 1099511627776 = r6 at F14 ⊢
  have E6 : Hid _ := e6
  clear e6
  obtain ⟨b6, hb6⟩ : ∃ b, (b5 && inR r6.1 (-32768) 32767) = b := ⟨_, rfl⟩
  have B6 : Hid ((b5 && inR r6.1 (-32768) 32767) = b6) := hb6
  clear hb6
  go_upto_region 15 with fail
  go_cut [9] from 14 (fun ov wc => ov = .bool b6 ∧ wc = W14)
  case first =>
    cases b5 <;> rcases (show r6.1 < -32768 ∨ (-32768 ≤ r6.1 ∧ 32767 < r6.1) ∨ (-32768 ≤ r6.1 ∧ r6.1 ≤ 32767) by omega) with h1 | ⟨h1, h2⟩ | ⟨h1, h2⟩ <;> (go_wp2_with fail; go_meet; case rel => exact ⟨by rw [← B6.out]; unfold inR; simp <;> omega, rfl⟩)
  obtain ⟨rfl, hwc⟩ := hcut
  rw [hwc]
  clear hwc
  have cJ_2 : W14.cell? ⟨w.heap.size + 1 + 1 + 1 + 1 + 1 + 1, 2, none⟩ = some (.int .i64 0) := J14.c 2 (of_decide_eq_true rfl)
  have gJ_2 := J14.f 2 (of_decide_eq_true rfl)
  go_wp2_with fail
  refine rounds_letter (S := fun W => Below w.heap.size w W ∧ Arr (w.heap.size) [.int .i64 q.1, .int .i64 q.2.1, .int .i64 q.2.2.1, .int .i64 q.2.2.2] W ∧ Arr (w.heap.size + 1) [.int .i64 m.1, .int .i64 m.2.1, .int .i64 m.2.2] W ∧ Arr (w.heap.size + 1 + 1) [.int .i64 0, .int .i64 0, .int .i64 0, .int .i64 0] W ∧ Arr (w.heap.size + 1 + 1 + 1) [.int .i64 0, .int .i64 0, .int .i64 0] W ∧ Arr (w.heap.size + 1 + 1 + 1 + 1 + 1) [.int .i64 r0.1, .int .i64 r1.1, .int .i64 r2.1, .int .i64 r3.1] W ∧ Arr (w.heap.size + 1 + 1 + 1 + 1 + 1 + 1) [.int .i64 r4.1, .int .i64 r5.1, .int .i64 r6.1] W ∧ Fl (w.heap.size + 1 + 1 + 1 + 1) r6.2 W) ⟨bel_new (L14) _ _ (by omega) _, Arr.new (q14) _ _ (by omega) _, Arr.new (m14) _ _ (by omega) _, Arr.new (A14) _ _ (by omega) _, Arr.new (D14) _ _ (by omega) _, Arr.new (H14) _ _ (by omega) _, Arr.put (J14) 2 (of_decide_eq_true rfl) (.int .i64 r6.1) [.int .i64 r4.1, .int .i64 r5.1, .int .i64 r6.1] rfl, Fl.new (F14) _ _ (by omega) _⟩ ?_
  rintro W15 ⟨L15, q15, m15, A15, D15, H15, J15, F15⟩
  have qz15 := q15.lies
  have mz15 := m15.lies
  have Az15 := A15.lies
  have Dz15 := D15.lies
  have Hz15 := H15.lies
  have Jz15 := J15.lies
  have Fz15 := F15.lies
  clear cJ_2 gJ_2
  clear L14 q14 m14 A14 D14 H14 J14 F14 qz14 mz14 Az14 Dz14 Hz14 Jz14 Fz14
  rw [rounds_succ]
  have HX : tlD q m = if b6 && !r6.2 then ((r0.1, r1.1, r2.1, r3.1), (r4.1, r5.1, r6.1)) else ((0, 0, 0, 0), (0, 0, 0)) := by unfold tlD; simp only [E0.out, E1.out, E2.out, E3.out, E4.out, E5.out, E6.out, B0.out, B1.out, B2.out, B3.out, B4.out, B5.out, B6.out]
  have cF : W15.cell? ⟨w.heap.size + 1 + 1 + 1 + 1, 0, none⟩ = some (.bool r6.2) := F15.cell
  obtain ⟨z6, y6⟩ := r6
  dsimp only at *
  cases b6
  case false =>
    rw [Bool.false_and, if_neg (by decide)] at HX
    have cA_0 : W15.cell? ⟨w.heap.size + 1 + 1, 0, none⟩ = some (.int .i64 0) := A15.c 0 (of_decide_eq_true rfl)
    have gA_0 := A15.f 0 (of_decide_eq_true rfl)
    have cA_1 : W15.cell? ⟨w.heap.size + 1 + 1, 1, none⟩ = some (.int .i64 0) := A15.c 1 (of_decide_eq_true rfl)
    have gA_1 := A15.f 1 (of_decide_eq_true rfl)
    have cA_2 : W15.cell? ⟨w.heap.size + 1 + 1, 2, none⟩ = some (.int .i64 0) := A15.c 2 (of_decide_eq_true rfl)
    have gA_2 := A15.f 2 (of_decide_eq_true rfl)
    have cA_3 : W15.cell? ⟨w.heap.size + 1 + 1, 3, none⟩ = some (.int .i64 0) := A15.c 3 (of_decide_eq_true rfl)
    have gA_3 := A15.f 3 (of_decide_eq_true rfl)
    have cD_0 : W15.cell? ⟨w.heap.size + 1 + 1 + 1, 0, none⟩ = some (.int .i64 0) := D15.c 0 (of_decide_eq_true rfl)
    have gD_0 := D15.f 0 (of_decide_eq_true rfl)
    have cD_1 : W15.cell? ⟨w.heap.size + 1 + 1 + 1, 1, none⟩ = some (.int .i64 0) := D15.c 1 (of_decide_eq_true rfl)
    have gD_1 := D15.f 1 (of_decide_eq_true rfl)
    have cD_2 : W15.cell? ⟨w.heap.size + 1 + 1 + 1, 2, none⟩ = some (.int .i64 0) := D15.c 2 (of_decide_eq_true rfl)
    have gD_2 := D15.f 2 (of_decide_eq_true rfl)
    go_wp2_with (with_reducible refine post_stop ?_)
    have DA := (((((((A15.put 0 (of_decide_eq_true rfl) (.int .i64 0) [.int .i64 0, .int .i64 0, .int .i64 0, .int .i64 0] rfl).put 1 (of_decide_eq_true rfl) (.int .i64 0) [.int .i64 0, .int .i64 0, .int .i64 0, .int .i64 0] rfl).put 2 (of_decide_eq_true rfl) (.int .i64 0) [.int .i64 0, .int .i64 0, .int .i64 0, .int .i64 0] rfl).put 3 (of_decide_eq_true rfl) (.int .i64 0) [.int .i64 0, .int .i64 0, .int .i64 0, .int .i64 0] rfl).new (w.heap.size + 1 + 1 + 1) 0 (by omega) (.int .i64 0)).new (w.heap.size + 1 + 1 + 1) 1 (by omega) (.int .i64 0)).new (w.heap.size + 1 + 1 + 1) 2 (by omega) (.int .i64 0))
    have DD := (((((((D15.new (w.heap.size + 1 + 1) 0 (by omega) (.int .i64 0)).new (w.heap.size + 1 + 1) 1 (by omega) (.int .i64 0)).new (w.heap.size + 1 + 1) 2 (by omega) (.int .i64 0)).new (w.heap.size + 1 + 1) 3 (by omega) (.int .i64 0)).put 0 (of_decide_eq_true rfl) (.int .i64 0) [.int .i64 0, .int .i64 0, .int .i64 0] rfl).put 1 (of_decide_eq_true rfl) (.int .i64 0) [.int .i64 0, .int .i64 0, .int .i64 0] rfl).put 2 (of_decide_eq_true rfl) (.int .i64 0) [.int .i64 0, .int .i64 0, .int .i64 0] rfl)
    have da0 := DA.c 0 (of_decide_eq_true rfl)
    have da1 := DA.c 1 (of_decide_eq_true rfl)
    have da2 := DA.c 2 (of_decide_eq_true rfl)
    have da3 := DA.c 3 (of_decide_eq_true rfl)
    have dd0 := DD.c 0 (of_decide_eq_true rfl)
    have dd1 := DD.c 1 (of_decide_eq_true rfl)
    have dd2 := DD.c 2 (of_decide_eq_true rfl)
    simp only [List.getElem_cons_zero, List.getElem_cons_succ] at da0 da1 da2 da3 dd0 dd1 dd2
    exact ⟨bodyPost_ret (v := .tuple #[.agg #[.int .i64 0, .int .i64 0, .int .i64 0, .int .i64 0], .agg #[.int .i64 0, .int .i64 0, .int .i64 0]]) (by simp [results, Try.results12, asAddr, go_sem, da0, da1, da2, da3, dd0, dd1, dd2]) rfl ⟨by rw [HX], (bel_new (bel_new (bel_new (bel_new (bel_new (bel_new (bel_new L15 _ _ (by omega) _) _ _ (by omega) _) _ _ (by omega) _) _ _ (by omega) _) _ _ (by omega) _) _ _ (by omega) _) _ _ (by omega) _)⟩⟩
  cases y6
  case true =>
    rw [Bool.not_true, Bool.and_false, if_neg (by decide)] at HX
    have cA_0 : W15.cell? ⟨w.heap.size + 1 + 1, 0, none⟩ = some (.int .i64 0) := A15.c 0 (of_decide_eq_true rfl)
    have gA_0 := A15.f 0 (of_decide_eq_true rfl)
    have cA_1 : W15.cell? ⟨w.heap.size + 1 + 1, 1, none⟩ = some (.int .i64 0) := A15.c 1 (of_decide_eq_true rfl)
    have gA_1 := A15.f 1 (of_decide_eq_true rfl)
    have cA_2 : W15.cell? ⟨w.heap.size + 1 + 1, 2, none⟩ = some (.int .i64 0) := A15.c 2 (of_decide_eq_true rfl)
    have gA_2 := A15.f 2 (of_decide_eq_true rfl)
    have cA_3 : W15.cell? ⟨w.heap.size + 1 + 1, 3, none⟩ = some (.int .i64 0) := A15.c 3 (of_decide_eq_true rfl)
    have gA_3 := A15.f 3 (of_decide_eq_true rfl)
    have cD_0 : W15.cell? ⟨w.heap.size + 1 + 1 + 1, 0, none⟩ = some (.int .i64 0) := D15.c 0 (of_decide_eq_true rfl)
    have gD_0 := D15.f 0 (of_decide_eq_true rfl)
    have cD_1 : W15.cell? ⟨w.heap.size + 1 + 1 + 1, 1, none⟩ = some (.int .i64 0) := D15.c 1 (of_decide_eq_true rfl)
    have gD_1 := D15.f 1 (of_decide_eq_true rfl)
    have cD_2 : W15.cell? ⟨w.heap.size + 1 + 1 + 1, 2, none⟩ = some (.int .i64 0) := D15.c 2 (of_decide_eq_true rfl)
    have gD_2 := D15.f 2 (of_decide_eq_true rfl)
    go_wp2_with (with_reducible refine post_stop ?_)
    have DA := (((((((A15.put 0 (of_decide_eq_true rfl) (.int .i64 0) [.int .i64 0, .int .i64 0, .int .i64 0, .int .i64 0] rfl).put 1 (of_decide_eq_true rfl) (.int .i64 0) [.int .i64 0, .int .i64 0, .int .i64 0, .int .i64 0] rfl).put 2 (of_decide_eq_true rfl) (.int .i64 0) [.int .i64 0, .int .i64 0, .int .i64 0, .int .i64 0] rfl).put 3 (of_decide_eq_true rfl) (.int .i64 0) [.int .i64 0, .int .i64 0, .int .i64 0, .int .i64 0] rfl).new (w.heap.size + 1 + 1 + 1) 0 (by omega) (.int .i64 0)).new (w.heap.size + 1 + 1 + 1) 1 (by omega) (.int .i64 0)).new (w.heap.size + 1 + 1 + 1) 2 (by omega) (.int .i64 0))
    have DD := (((((((D15.new (w.heap.size + 1 + 1) 0 (by omega) (.int .i64 0)).new (w.heap.size + 1 + 1) 1 (by omega) (.int .i64 0)).new (w.heap.size + 1 + 1) 2 (by omega) (.int .i64 0)).new (w.heap.size + 1 + 1) 3 (by omega) (.int .i64 0)).put 0 (of_decide_eq_true rfl) (.int .i64 0) [.int .i64 0, .int .i64 0, .int .i64 0] rfl).put 1 (of_decide_eq_true rfl) (.int .i64 0) [.int .i64 0, .int .i64 0, .int .i64 0] rfl).put 2 (of_decide_eq_true rfl) (.int .i64 0) [.int .i64 0, .int .i64 0, .int .i64 0] rfl)
    have da0 := DA.c 0 (of_decide_eq_true rfl)
    have da1 := DA.c 1 (of_decide_eq_true rfl)
    have da2 := DA.c 2 (of_decide_eq_true rfl)
    have da3 := DA.c 3 (of_decide_eq_true rfl)
    have dd0 := DD.c 0 (of_decide_eq_true rfl)
    have dd1 := DD.c 1 (of_decide_eq_true rfl)
    have dd2 := DD.c 2 (of_decide_eq_true rfl)
    simp only [List.getElem_cons_zero, List.getElem_cons_succ] at da0 da1 da2 da3 dd0 dd1 dd2
    exact ⟨bodyPost_ret (v := .tuple #[.agg #[.int .i64 0, .int .i64 0, .int .i64 0, .int .i64 0], .agg #[.int .i64 0, .int .i64 0, .int .i64 0]]) (by simp [results, Try.results12, asAddr, go_sem, da0, da1, da2, da3, dd0, dd1, dd2]) rfl ⟨by rw [HX], (bel_new (bel_new (bel_new (bel_new (bel_new (bel_new (bel_new L15 _ _ (by omega) _) _ _ (by omega) _) _ _ (by omega) _) _ _ (by omega) _) _ _ (by omega) _) _ _ (by omega) _) _ _ (by omega) _)⟩⟩
  rw [Bool.not_false, Bool.and_true, if_pos rfl] at HX
  have cA_0 : W15.cell? ⟨w.heap.size + 1 + 1, 0, none⟩ = some (.int .i64 0) := A15.c 0 (of_decide_eq_true rfl)
  have gA_0 := A15.f 0 (of_decide_eq_true rfl)
  have cA_1 : W15.cell? ⟨w.heap.size + 1 + 1, 1, none⟩ = some (.int .i64 0) := A15.c 1 (of_decide_eq_true rfl)
  have gA_1 := A15.f 1 (of_decide_eq_true rfl)
  have cA_2 : W15.cell? ⟨w.heap.size + 1 + 1, 2, none⟩ = some (.int .i64 0) := A15.c 2 (of_decide_eq_true rfl)
  have gA_2 := A15.f 2 (of_decide_eq_true rfl)
  have cA_3 : W15.cell? ⟨w.heap.size + 1 + 1, 3, none⟩ = some (.int .i64 0) := A15.c 3 (of_decide_eq_true rfl)
  have gA_3 := A15.f 3 (of_decide_eq_true rfl)
  have cD_0 : W15.cell? ⟨w.heap.size + 1 + 1 + 1, 0, none⟩ = some (.int .i64 0) := D15.c 0 (of_decide_eq_true rfl)
  have gD_0 := D15.f 0 (of_decide_eq_true rfl)
  have cD_1 : W15.cell? ⟨w.heap.size + 1 + 1 + 1, 1, none⟩ = some (.int .i64 0) := D15.c 1 (of_decide_eq_true rfl)
  have gD_1 := D15.f 1 (of_decide_eq_true rfl)
  have cD_2 : W15.cell? ⟨w.heap.size + 1 + 1 + 1, 2, none⟩ = some (.int .i64 0) := D15.c 2 (of_decide_eq_true rfl)
  have gD_2 := D15.f 2 (of_decide_eq_true rfl)
  have cH_0 : W15.cell? ⟨w.heap.size + 1 + 1 + 1 + 1 + 1, 0, none⟩ = some (.int .i64 r0.1) := H15.c 0 (of_decide_eq_true rfl)
  have cH_1 : W15.cell? ⟨w.heap.size + 1 + 1 + 1 + 1 + 1, 1, none⟩ = some (.int .i64 r1.1) := H15.c 1 (of_decide_eq_true rfl)
  have cH_2 : W15.cell? ⟨w.heap.size + 1 + 1 + 1 + 1 + 1, 2, none⟩ = some (.int .i64 r2.1) := H15.c 2 (of_decide_eq_true rfl)
  have cH_3 : W15.cell? ⟨w.heap.size + 1 + 1 + 1 + 1 + 1, 3, none⟩ = some (.int .i64 r3.1) := H15.c 3 (of_decide_eq_true rfl)
  have cJ_0 : W15.cell? ⟨w.heap.size + 1 + 1 + 1 + 1 + 1 + 1, 0, none⟩ = some (.int .i64 r4.1) := J15.c 0 (of_decide_eq_true rfl)
  have cJ_1 : W15.cell? ⟨w.heap.size + 1 + 1 + 1 + 1 + 1 + 1, 1, none⟩ = some (.int .i64 r5.1) := J15.c 1 (of_decide_eq_true rfl)
  have cJ_2 : W15.cell? ⟨w.heap.size + 1 + 1 + 1 + 1 + 1 + 1, 2, none⟩ = some (.int .i64 z6) := J15.c 2 (of_decide_eq_true rfl)
  go_wp2_with fail
  go_region
  go_wp2_with (with_reducible refine post_stop ?_)
  have DA := (((((((A15.put 0 (of_decide_eq_true rfl) (.int .i64 r0.1) [.int .i64 r0.1, .int .i64 0, .int .i64 0, .int .i64 0] rfl).put 1 (of_decide_eq_true rfl) (.int .i64 r1.1) [.int .i64 r0.1, .int .i64 r1.1, .int .i64 0, .int .i64 0] rfl).put 2 (of_decide_eq_true rfl) (.int .i64 r2.1) [.int .i64 r0.1, .int .i64 r1.1, .int .i64 r2.1, .int .i64 0] rfl).put 3 (of_decide_eq_true rfl) (.int .i64 r3.1) [.int .i64 r0.1, .int .i64 r1.1, .int .i64 r2.1, .int .i64 r3.1] rfl).new (w.heap.size + 1 + 1 + 1) 0 (by omega) (.int .i64 r4.1)).new (w.heap.size + 1 + 1 + 1) 1 (by omega) (.int .i64 r5.1)).new (w.heap.size + 1 + 1 + 1) 2 (by omega) (.int .i64 z6))
  have DD := (((((((D15.new (w.heap.size + 1 + 1) 0 (by omega) (.int .i64 r0.1)).new (w.heap.size + 1 + 1) 1 (by omega) (.int .i64 r1.1)).new (w.heap.size + 1 + 1) 2 (by omega) (.int .i64 r2.1)).new (w.heap.size + 1 + 1) 3 (by omega) (.int .i64 r3.1)).put 0 (of_decide_eq_true rfl) (.int .i64 r4.1) [.int .i64 r4.1, .int .i64 0, .int .i64 0] rfl).put 1 (of_decide_eq_true rfl) (.int .i64 r5.1) [.int .i64 r4.1, .int .i64 r5.1, .int .i64 0] rfl).put 2 (of_decide_eq_true rfl) (.int .i64 z6) [.int .i64 r4.1, .int .i64 r5.1, .int .i64 z6] rfl)
  have da0 := DA.c 0 (of_decide_eq_true rfl)
  have da1 := DA.c 1 (of_decide_eq_true rfl)
  have da2 := DA.c 2 (of_decide_eq_true rfl)
  have da3 := DA.c 3 (of_decide_eq_true rfl)
  have dd0 := DD.c 0 (of_decide_eq_true rfl)
  have dd1 := DD.c 1 (of_decide_eq_true rfl)
  have dd2 := DD.c 2 (of_decide_eq_true rfl)
  simp only [List.getElem_cons_zero, List.getElem_cons_succ] at da0 da1 da2 da3 dd0 dd1 dd2
  exact ⟨bodyPost_ret (v := .tuple #[.agg #[.int .i64 r0.1, .int .i64 r1.1, .int .i64 r2.1, .int .i64 r3.1], .agg #[.int .i64 r4.1, .int .i64 r5.1, .int .i64 z6]]) (by simp [results, Try.results12, asAddr, go_sem, da0, da1, da2, da3, dd0, dd1, dd2]) rfl ⟨by rw [HX], (bel_drew (bel_new (bel_new (bel_new (bel_new (bel_new (bel_new (bel_new L15 _ _ (by omega) _) _ _ (by omega) _) _ _ (by omega) _) _ _ (by omega) _) _ _ (by omega) _) _ _ (by omega) _) _ _ (by omega) _))⟩⟩
end Go.Proofs.Ytchkedlfackfgaa
