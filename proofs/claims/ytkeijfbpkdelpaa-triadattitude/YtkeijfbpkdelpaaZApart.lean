/-
  Walks of the reference of stage 5, for the seat Ytkeijfbpkdelpaa. (Made by mkref05.py.)
-/
import Derived.Test.YtkeijfbpkdelpaaZSpec
import Derived.Test.YtkeijfbpkdelpaaUParts
import Derived.Test.YtkeijfbpkdelpaaUCross
import Derived.Test.YtkeijfbpkdelpaaUUnit
import Derived.Test.YtkeijfbpkdelpaaStop
import Derived.Handy
import Derived.Deep.RegionHeld3
namespace Go.Proofs.Ytkeijfbpkdelpaa
open Go.RowKit

set_option maxRecDepth 100000 in
set_option maxHeartbeats 2000000 in
theorem zApart_any (b : Nat) (bad : Bool) (p : V3) (q : V3) (w : World) (hw : Fl b bad w) :
    Calls Try.prog 9 #[.pointer (some ⟨b, 0, none⟩), .agg #[.int .i64 p.1, .int .i64 p.2.1, .int .i64 p.2.2], .agg #[.int .i64 q.1, .int .i64 q.2.1, .int .i64 q.2.2]] w fun e w' => e = .returned (.bool ((zApartS bad p q).1)) ∧ Fl b (zApartS bad p q).2 w' ∧ Kept b w w' := by
  have hl := hw.lies
  go_enter Try.func9, Try.ntmps9
  go_wp2_with fail
  refine (uParts_any b bad p q _ ((hw.alloc _).alloc _)).mono ?_
  rintro e w1 ⟨rfl, f1, k1⟩
  generalize e1 : uPartsS bad p q = r1 at f1 ⊢
  have E1 : Hid _ := e1
  clear e1
  have K1 : Kept b w w1 := Kept.trans (((Kept.refl b w).al _).al _) k1
  have B0_1 : Arr w.heap.size [.int .i64 p.1, .int .i64 p.2.1, .int .i64 p.2.2] w1 := ((Arr_at _ _ [.int .i64 p.1, .int .i64 p.2.1, .int .i64 p.2.2] _ (by simp)).alloc _).kept k1 (by omega)
  have B1_1 : Arr (w.heap.size + 1) [.int .i64 q.1, .int .i64 q.2.1, .int .i64 q.2.2] w1 := (Arr_at _ _ [.int .i64 q.1, .int .i64 q.2.1, .int .i64 q.2.2] _ (by simp)).kept k1 (by omega)
  have z1 := B1_1.lies
  clear k1
  rcases Bool.eq_false_or_eq_true r1.2 with hc1 | hc1
  · have Hhc1 : Hid (r1.2 = true) := hc1
    have c2_BF := f1.cell
    go_wp2
    clear c2_BF
    go_ret
    have hs : zApartS bad p q = (false, r1.2) := by unfold zApartS; simp only [E1.out]; rw [if_pos Hhc1.out]
    rw [hs]
    exact ⟨rfl, f1, K1⟩
  · have Hhc1 : Hid (r1.2 = false) := hc1
    have c2_BF := f1.cell
    go_wp2
    clear c2_BF
    go_ret
    have hs : zApartS bad p q = ((decide (r1.1.1 ≥ 190928190487)), r1.2) := by unfold zApartS; simp only [E1.out]; rw [if_neg (by rw [Hhc1.out]; decide)]
    rw [hs]
    exact ⟨rfl, f1, K1⟩
set_option maxRecDepth 100000 in
set_option maxHeartbeats 2000000 in
theorem zframe_any (b : Nat) (bad : Bool) (p : V6) (w : World) (hw : Fl b bad w) :
    Calls Try.prog 26 #[.pointer (some ⟨b, 0, none⟩), .agg #[.int .i64 p.1, .int .i64 p.2.1, .int .i64 p.2.2.1, .int .i64 p.2.2.2.1, .int .i64 p.2.2.2.2.1, .int .i64 p.2.2.2.2.2]] w fun e w' => e = .returned (.agg #[.int .i64 ((zframeS bad p).1.1), .int .i64 ((zframeS bad p).1.2.1), .int .i64 ((zframeS bad p).1.2.2.1), .int .i64 ((zframeS bad p).1.2.2.2.1), .int .i64 ((zframeS bad p).1.2.2.2.2.1), .int .i64 ((zframeS bad p).1.2.2.2.2.2.1), .int .i64 ((zframeS bad p).1.2.2.2.2.2.2.1), .int .i64 ((zframeS bad p).1.2.2.2.2.2.2.2.1), .int .i64 ((zframeS bad p).1.2.2.2.2.2.2.2.2)]) ∧ Fl b (zframeS bad p).2 w' ∧ Kept b w w' := by
  have hl := hw.lies
  go_enter Try.func26, Try.ntmps26
  go_wp2_with fail
  refine (uUnit_any b bad (p.1, p.2.1, p.2.2.1) _ ((hw.alloc _).alloc _)).mono ?_
  rintro e w1 ⟨rfl, f1, k1⟩
  generalize e1 : uUnitS bad (p.1, p.2.1, p.2.2.1) = r1 at f1 ⊢
  have E1 : Hid _ := e1
  clear e1
  have K1 : Kept b w w1 := Kept.trans (((Kept.refl b w).al _).al _) k1
  have B0_1 : Arr w.heap.size [.int .i64 p.1, .int .i64 p.2.1, .int .i64 p.2.2.1, .int .i64 p.2.2.2.1, .int .i64 p.2.2.2.2.1, .int .i64 p.2.2.2.2.2] w1 := ((Arr_at _ _ [.int .i64 p.1, .int .i64 p.2.1, .int .i64 p.2.2.1, .int .i64 p.2.2.2.1, .int .i64 p.2.2.2.2.1, .int .i64 p.2.2.2.2.2] _ (by simp)).alloc _).kept k1 (by omega)
  have B1_1 : Arr (w.heap.size + 1) [.int .i64 0, .int .i64 0, .int .i64 0, .int .i64 0, .int .i64 0, .int .i64 0, .int .i64 0, .int .i64 0, .int .i64 0] w1 := (Arr_at _ _ [.int .i64 0, .int .i64 0, .int .i64 0, .int .i64 0, .int .i64 0, .int .i64 0, .int .i64 0, .int .i64 0, .int .i64 0] _ (by simp)).kept k1 (by omega)
  have z1 := B1_1.lies
  clear k1
  go_wp2_with fail
  rename_i K0 aK0
  have cont1 : ∀ (W1 : World) (t1_8 t1_9 t1_10 t1_11 t1_12 t1_13 t1_14 t1_15 t1_16 t1_17 t1_18 t1_19 t1_20 : Value) (x1_0 : Nat) (r2 : _) (r3 : _) (r4 : _) , Hid (uUnitS r1.2 p.2.2.2 = r2) → Hid (uCrossS r2.2 r1.1 r2.1 = r3) → Hid (uUnitS r3.2 r3.1 = r4) → Kept b w W1 → Fl b r4.2 W1 → Arr w.heap.size [.int .i64 p.1, .int .i64 p.2.1, .int .i64 p.2.2.1, .int .i64 p.2.2.2.1, .int .i64 p.2.2.2.2.1, .int .i64 p.2.2.2.2.2] W1 → Arr (w.heap.size + 1) [.int .i64 0, .int .i64 0, .int .i64 0, .int .i64 0, .int .i64 0, .int .i64 0, .int .i64 0, .int .i64 0, .int .i64 0] W1 → Arr w1.heap.size [.int .i64 r1.1.1, .int .i64 r1.1.2.1, .int .i64 r1.1.2.2] W1 → Arr x1_0 [.int .i64 r4.1.1, .int .i64 r4.1.2.1, .int .i64 r4.1.2.2] W1 → w.heap.size ≤ x1_0 → b < x1_0 → w.heap.size < x1_0 → w.heap.size + 1 < x1_0 → w1.heap.size < x1_0 → K0 { tmps := #[.pointer (some ⟨b, 0, none⟩), .agg #[.int .i64 p.1, .int .i64 p.2.1, .int .i64 p.2.2.1, .int .i64 p.2.2.2.1, .int .i64 p.2.2.2.2.1, .int .i64 p.2.2.2.2.2], undef, .pointer (some ⟨w.heap.size, 0, none⟩), .pointer (some ⟨w.heap.size + 1, 0, none⟩), .pointer (some ⟨w1.heap.size, 0, none⟩), .pointer (some ⟨x1_0, 0, none⟩), undef, t1_8, t1_9, t1_10, t1_11, t1_12, t1_13, t1_14, t1_15, t1_16, t1_17, t1_18, t1_19, t1_20, undef, undef, undef, undef, undef, undef, undef, undef], defers := [] } W1 := by
    intro W1 t1_8 t1_9 t1_10 t1_11 t1_12 t1_13 t1_14 t1_15 t1_16 t1_17 t1_18 t1_19 t1_20 x1_0 r2 r3 r4 E2 E3 E4 KC1 BF_c1 B0_c1 B1_c1 B2_c1 B3_c1 s1_0 s1_1 s1_2 s1_3 s1_4
    have zc1_BF := BF_c1.lies
    have zc1_B0 := B0_c1.lies
    have zc1_B1 := B1_c1.lies
    have zc1_B2 := B2_c1.lies
    have zc1_B3 := B3_c1.lies
    apply aK0
    have c3_B2_0 : W1.cell? ⟨w1.heap.size, 0, none⟩ = some (.int .i64 r1.1.1) := B2_c1.c 0 (of_decide_eq_true rfl)
    have c3_B2_1 : W1.cell? ⟨w1.heap.size, 1, none⟩ = some (.int .i64 r1.1.2.1) := B2_c1.c 1 (of_decide_eq_true rfl)
    have c3_B2_2 : W1.cell? ⟨w1.heap.size, 2, none⟩ = some (.int .i64 r1.1.2.2) := B2_c1.c 2 (of_decide_eq_true rfl)
    have c3_B3_0 : W1.cell? ⟨x1_0, 0, none⟩ = some (.int .i64 r4.1.1) := B3_c1.c 0 (of_decide_eq_true rfl)
    have c3_B3_1 : W1.cell? ⟨x1_0, 1, none⟩ = some (.int .i64 r4.1.2.1) := B3_c1.c 1 (of_decide_eq_true rfl)
    have c3_B3_2 : W1.cell? ⟨x1_0, 2, none⟩ = some (.int .i64 r4.1.2.2) := B3_c1.c 2 (of_decide_eq_true rfl)
    go_wp2_with fail
    refine (uCross_any b r4.2 r1.1 r4.1 _ BF_c1).mono ?_
    rintro e w5 ⟨rfl, f5, k5⟩
    generalize e5 : uCrossS r4.2 r1.1 r4.1 = r5 at f5 ⊢
    have E5 : Hid _ := e5
    clear e5
    have K5 : Kept b w w5 := Kept.trans KC1 k5
    have B0_5 : Arr w.heap.size [.int .i64 p.1, .int .i64 p.2.1, .int .i64 p.2.2.1, .int .i64 p.2.2.2.1, .int .i64 p.2.2.2.2.1, .int .i64 p.2.2.2.2.2] w5 := B0_c1.kept k5 (by omega)
    have B1_5 : Arr (w.heap.size + 1) [.int .i64 0, .int .i64 0, .int .i64 0, .int .i64 0, .int .i64 0, .int .i64 0, .int .i64 0, .int .i64 0, .int .i64 0] w5 := B1_c1.kept k5 (by omega)
    have B2_5 : Arr w1.heap.size [.int .i64 r1.1.1, .int .i64 r1.1.2.1, .int .i64 r1.1.2.2] w5 := B2_c1.kept k5 (by omega)
    have B3_5 : Arr x1_0 [.int .i64 r4.1.1, .int .i64 r4.1.2.1, .int .i64 r4.1.2.2] w5 := B3_c1.kept k5 (by omega)
    have z5 := B3_5.lies
    clear c3_B2_0 c3_B2_1 c3_B2_2 c3_B3_0 c3_B3_1 c3_B3_2 BF_c1 B0_c1 B1_c1 B2_c1 B3_c1 k5
    have c4_B1_0 : w5.cell? ⟨w.heap.size + 1, 0, none⟩ = some (.int .i64 0) := B1_5.c 0 (of_decide_eq_true rfl)
    have c4_B1_1 : w5.cell? ⟨w.heap.size + 1, 1, none⟩ = some (.int .i64 0) := B1_5.c 1 (of_decide_eq_true rfl)
    have c4_B1_2 : w5.cell? ⟨w.heap.size + 1, 2, none⟩ = some (.int .i64 0) := B1_5.c 2 (of_decide_eq_true rfl)
    have c4_B1_3 : w5.cell? ⟨w.heap.size + 1, 3, none⟩ = some (.int .i64 0) := B1_5.c 3 (of_decide_eq_true rfl)
    have c4_B1_4 : w5.cell? ⟨w.heap.size + 1, 4, none⟩ = some (.int .i64 0) := B1_5.c 4 (of_decide_eq_true rfl)
    have c4_B1_5 : w5.cell? ⟨w.heap.size + 1, 5, none⟩ = some (.int .i64 0) := B1_5.c 5 (of_decide_eq_true rfl)
    have c4_B1_6 : w5.cell? ⟨w.heap.size + 1, 6, none⟩ = some (.int .i64 0) := B1_5.c 6 (of_decide_eq_true rfl)
    have c4_B1_7 : w5.cell? ⟨w.heap.size + 1, 7, none⟩ = some (.int .i64 0) := B1_5.c 7 (of_decide_eq_true rfl)
    have c4_B1_8 : w5.cell? ⟨w.heap.size + 1, 8, none⟩ = some (.int .i64 0) := B1_5.c 8 (of_decide_eq_true rfl)
    have c4_B2_0 : w5.cell? ⟨w1.heap.size, 0, none⟩ = some (.int .i64 r1.1.1) := B2_5.c 0 (of_decide_eq_true rfl)
    have c4_B2_1 : w5.cell? ⟨w1.heap.size, 1, none⟩ = some (.int .i64 r1.1.2.1) := B2_5.c 1 (of_decide_eq_true rfl)
    have c4_B2_2 : w5.cell? ⟨w1.heap.size, 2, none⟩ = some (.int .i64 r1.1.2.2) := B2_5.c 2 (of_decide_eq_true rfl)
    have c4_B3_0 : w5.cell? ⟨x1_0, 0, none⟩ = some (.int .i64 r4.1.1) := B3_5.c 0 (of_decide_eq_true rfl)
    have c4_B3_1 : w5.cell? ⟨x1_0, 1, none⟩ = some (.int .i64 r4.1.2.1) := B3_5.c 1 (of_decide_eq_true rfl)
    have c4_B3_2 : w5.cell? ⟨x1_0, 2, none⟩ = some (.int .i64 r4.1.2.2) := B3_5.c 2 (of_decide_eq_true rfl)
    have g4_B1_0 := B1_5.f 0 (of_decide_eq_true rfl)
    have g4_B1_1 := B1_5.f 1 (of_decide_eq_true rfl)
    have g4_B1_2 := B1_5.f 2 (of_decide_eq_true rfl)
    have g4_B1_3 := B1_5.f 3 (of_decide_eq_true rfl)
    have g4_B1_4 := B1_5.f 4 (of_decide_eq_true rfl)
    have g4_B1_5 := B1_5.f 5 (of_decide_eq_true rfl)
    have g4_B1_6 := B1_5.f 6 (of_decide_eq_true rfl)
    have g4_B1_7 := B1_5.f 7 (of_decide_eq_true rfl)
    have g4_B1_8 := B1_5.f 8 (of_decide_eq_true rfl)
    have l4_B1 := B1_5.lies
    have l4_B2 := B2_5.lies
    have l4_B3 := B3_5.lies
    go_wp2_with (with_reducible refine post_stop ?_)
    refine Stop.mk ?_
    clear c4_B1_0 c4_B1_1 c4_B1_2 c4_B1_3 c4_B1_4 c4_B1_5 c4_B1_6 c4_B1_7 c4_B1_8 c4_B2_0 c4_B2_1 c4_B2_2 c4_B3_0 c4_B3_1 c4_B3_2 g4_B1_0 g4_B1_1 g4_B1_2 g4_B1_3 g4_B1_4 g4_B1_5 g4_B1_6 g4_B1_7 g4_B1_8 l4_B1 l4_B2 l4_B3
    refine bodyPost_ret (v := .agg #[.int .i64 r1.1.1, .int .i64 r1.1.2.1, .int .i64 r1.1.2.2, .int .i64 r4.1.1, .int .i64 r4.1.2.1, .int .i64 r4.1.2.2, .int .i64 r5.1.1, .int .i64 r5.1.2.1, .int .i64 r5.1.2.2]) (results_arr Try.results26 ((((((((((B1_5.put 0 (of_decide_eq_true rfl) (.int .i64 r1.1.1) [.int .i64 r1.1.1, .int .i64 0, .int .i64 0, .int .i64 0, .int .i64 0, .int .i64 0, .int .i64 0, .int .i64 0, .int .i64 0] rfl).put 1 (of_decide_eq_true rfl) (.int .i64 r1.1.2.1) [.int .i64 r1.1.1, .int .i64 r1.1.2.1, .int .i64 0, .int .i64 0, .int .i64 0, .int .i64 0, .int .i64 0, .int .i64 0, .int .i64 0] rfl).put 2 (of_decide_eq_true rfl) (.int .i64 r1.1.2.2) [.int .i64 r1.1.1, .int .i64 r1.1.2.1, .int .i64 r1.1.2.2, .int .i64 0, .int .i64 0, .int .i64 0, .int .i64 0, .int .i64 0, .int .i64 0] rfl).put 3 (of_decide_eq_true rfl) (.int .i64 r4.1.1) [.int .i64 r1.1.1, .int .i64 r1.1.2.1, .int .i64 r1.1.2.2, .int .i64 r4.1.1, .int .i64 0, .int .i64 0, .int .i64 0, .int .i64 0, .int .i64 0] rfl).put 4 (of_decide_eq_true rfl) (.int .i64 r4.1.2.1) [.int .i64 r1.1.1, .int .i64 r1.1.2.1, .int .i64 r1.1.2.2, .int .i64 r4.1.1, .int .i64 r4.1.2.1, .int .i64 0, .int .i64 0, .int .i64 0, .int .i64 0] rfl).put 5 (of_decide_eq_true rfl) (.int .i64 r4.1.2.2) [.int .i64 r1.1.1, .int .i64 r1.1.2.1, .int .i64 r1.1.2.2, .int .i64 r4.1.1, .int .i64 r4.1.2.1, .int .i64 r4.1.2.2, .int .i64 0, .int .i64 0, .int .i64 0] rfl).put 6 (of_decide_eq_true rfl) (.int .i64 r5.1.1) [.int .i64 r1.1.1, .int .i64 r1.1.2.1, .int .i64 r1.1.2.2, .int .i64 r4.1.1, .int .i64 r4.1.2.1, .int .i64 r4.1.2.2, .int .i64 r5.1.1, .int .i64 0, .int .i64 0] rfl).put 7 (of_decide_eq_true rfl) (.int .i64 r5.1.2.1) [.int .i64 r1.1.1, .int .i64 r1.1.2.1, .int .i64 r1.1.2.2, .int .i64 r4.1.1, .int .i64 r4.1.2.1, .int .i64 r4.1.2.2, .int .i64 r5.1.1, .int .i64 r5.1.2.1, .int .i64 0] rfl).put 8 (of_decide_eq_true rfl) (.int .i64 r5.1.2.2) [.int .i64 r1.1.1, .int .i64 r1.1.2.1, .int .i64 r1.1.2.2, .int .i64 r4.1.1, .int .i64 r4.1.2.1, .int .i64 r4.1.2.2, .int .i64 r5.1.1, .int .i64 r5.1.2.1, .int .i64 r5.1.2.2] rfl).alloc _) rfl (by kernel_rfl) (by kernel_rfl)) rfl ?_
    have hs : zframeS bad p = ((r1.1.1, r1.1.2.1, r1.1.2.2, r4.1.1, r4.1.2.1, r4.1.2.2, r5.1.1, r5.1.2.1, r5.1.2.2), r5.2) := by unfold zframeS; simp only [E1.out, E2.out, E3.out, E4.out, E5.out]
    rw [hs]
    exact ⟨rfl, ((((((((((f5.new (w.heap.size + 1) 0 (by omega) (.int .i64 r1.1.1)).new (w.heap.size + 1) 1 (by omega) (.int .i64 r1.1.2.1)).new (w.heap.size + 1) 2 (by omega) (.int .i64 r1.1.2.2)).new (w.heap.size + 1) 3 (by omega) (.int .i64 r4.1.1)).new (w.heap.size + 1) 4 (by omega) (.int .i64 r4.1.2.1)).new (w.heap.size + 1) 5 (by omega) (.int .i64 r4.1.2.2)).new (w.heap.size + 1) 6 (by omega) (.int .i64 r5.1.1)).new (w.heap.size + 1) 7 (by omega) (.int .i64 r5.1.2.1)).new (w.heap.size + 1) 8 (by omega) (.int .i64 r5.1.2.2)).alloc _), ((((((((((K5.new _ _ (by omega) _).new _ _ (by omega) _).new _ _ (by omega) _).new _ _ (by omega) _).new _ _ (by omega) _).new _ _ (by omega) _).new _ _ (by omega) _).new _ _ (by omega) _).new _ _ (by omega) _).al _)⟩
  refine wp_region_held_drew (S := fun w' => Arr w1.heap.size [.int .i64 r1.1.1, .int .i64 r1.1.2.1, .int .i64 r1.1.2.2] w' ∧ Arr w.heap.size [.int .i64 p.1, .int .i64 p.2.1, .int .i64 p.2.2.1, .int .i64 p.2.2.2.1, .int .i64 p.2.2.2.2.1, .int .i64 p.2.2.2.2.2] w') (by kernel_rfl) ⟨(Arr_at _ _ [.int .i64 r1.1.1, .int .i64 r1.1.2.1, .int .i64 r1.1.2.2] _ (by simp)).drew, (B0_1.alloc _).drew⟩ (fun hHeld => ?_)
  refine take_at (i := 0) (v := ?v1) rfl (by kernel_rfl) (by kernel_rfl) (by kernel_rfl) (fun _ _ _ h => h) (Or.inl ⟨by rfl, ?y1⟩) hHeld ?t1
  case y1 => (intro wx hSw; go_simp <;> with_reducible rfl)
  simp only [Act.put, List.setIfInBounds_toArray, List.set_cons_zero, List.set_cons_succ]
  refine take_at (i := 1) (v := ?v2) rfl (by kernel_rfl) (by kernel_rfl) (by kernel_rfl) (fun _ _ _ h => h) (Or.inl ⟨by rfl, ?y2⟩) hHeld ?t2
  case y2 => (intro wx hSw; go_simp <;> with_reducible rfl)
  simp only [Act.put, List.setIfInBounds_toArray, List.set_cons_zero, List.set_cons_succ]
  refine take_at (i := 2) (v := ?v3) rfl (by kernel_rfl) (by kernel_rfl) (by kernel_rfl) (fun _ _ _ h => h) (Or.inl ⟨by rfl, ?y3⟩) hHeld ?t3
  case y3 => (intro wx hSw; have hc0 : wx.cell? ⟨w1.heap.size, 0, none⟩ = some (.int .i64 r1.1.1) := hSw.1.c 0 (of_decide_eq_true rfl); have hc1 : wx.cell? ⟨w1.heap.size, 1, none⟩ = some (.int .i64 r1.1.2.1) := hSw.1.c 1 (of_decide_eq_true rfl); have hc2 : wx.cell? ⟨w1.heap.size, 2, none⟩ = some (.int .i64 r1.1.2.2) := hSw.1.c 2 (of_decide_eq_true rfl); go_simp <;> with_reducible rfl)
  simp only [Act.put, List.setIfInBounds_toArray, List.set_cons_zero, List.set_cons_succ]
  refine take_at (i := 3) (v := ?v4) rfl (by kernel_rfl) (by kernel_rfl) (by kernel_rfl) (fun _ _ _ h => h) (Or.inl ⟨by rfl, ?y4⟩) hHeld ?t4
  case y4 => (intro wx hSw; go_simp <;> with_reducible rfl)
  simp only [Act.put, List.setIfInBounds_toArray, List.set_cons_zero, List.set_cons_succ]
  refine take_at (i := 4) (v := ?v5) rfl (by kernel_rfl) (by kernel_rfl) (by kernel_rfl) (fun _ _ _ h => h) (Or.inl ⟨by rfl, ?y5⟩) hHeld ?t5
  case y5 => (intro wx hSw; go_simp <;> with_reducible rfl)
  simp only [Act.put, List.setIfInBounds_toArray, List.set_cons_zero, List.set_cons_succ]
  refine take_at (i := 5) (v := ?v6) rfl (by kernel_rfl) (by kernel_rfl) (by kernel_rfl) (fun _ _ _ h => h) (Or.inl ⟨by rfl, ?y6⟩) hHeld ?t6
  case y6 => (intro wx hSw; have hc3 : wx.cell? ⟨w.heap.size, 3, none⟩ = some (.int .i64 p.2.2.2.1) := hSw.2.c 3 (of_decide_eq_true rfl); have hc4 : wx.cell? ⟨w.heap.size, 4, none⟩ = some (.int .i64 p.2.2.2.2.1) := hSw.2.c 4 (of_decide_eq_true rfl); have hc5 : wx.cell? ⟨w.heap.size, 5, none⟩ = some (.int .i64 p.2.2.2.2.2) := hSw.2.c 5 (of_decide_eq_true rfl); go_simp <;> with_reducible rfl)
  simp only [Act.put, List.setIfInBounds_toArray, List.set_cons_zero, List.set_cons_succ]
  refine call_at2 (i0 := 6) (i1 := 9) (by kernel_rfl) rfl rfl (fun K hK => ?_) (fun K hK => ?_)
  · go_simp
    refine (uUnit_any b r1.2 p.2.2.2 _ (f1.alloc _).drew).mono ?_
    rintro e w2 ⟨rfl, f2, k2⟩
    generalize e2 : uUnitS r1.2 p.2.2.2 = r2 at f2 ⊢
    have E2 : Hid _ := e2
    clear e2
    have K2 : Kept b w w2 := Kept.trans (K1.al _).drew k2
    have B0_2 : Arr w.heap.size [.int .i64 p.1, .int .i64 p.2.1, .int .i64 p.2.2.1, .int .i64 p.2.2.2.1, .int .i64 p.2.2.2.2.1, .int .i64 p.2.2.2.2.2] w2 := (B0_1.alloc _).drew.kept k2 (by omega)
    have B1_2 : Arr (w.heap.size + 1) [.int .i64 0, .int .i64 0, .int .i64 0, .int .i64 0, .int .i64 0, .int .i64 0, .int .i64 0, .int .i64 0, .int .i64 0] w2 := (B1_1.alloc _).drew.kept k2 (by omega)
    have B2_2 : Arr w1.heap.size [.int .i64 r1.1.1, .int .i64 r1.1.2.1, .int .i64 r1.1.2.2] w2 := (Arr_at _ _ [.int .i64 r1.1.1, .int .i64 r1.1.2.1, .int .i64 r1.1.2.2] _ (by simp)).drew.kept k2 (by omega)
    have z2 := B2_2.lies
    clear hHeld
    refine hK.out _ _ ⟨B2_2, B0_2⟩ (fun hHeld => ?_)
    clear hK K K1 f1 B0_1 B1_1 k2
    refine call_at2 (i0 := 7) (i1 := 9) (by kernel_rfl) rfl rfl (fun K hK => ?_) (fun K hK => ?_)
    · go_simp
      refine (uCross_any b r2.2 r1.1 r2.1 _ f2).mono ?_
      rintro e w3 ⟨rfl, f3, k3⟩
      generalize e3 : uCrossS r2.2 r1.1 r2.1 = r3 at f3 ⊢
      have E3 : Hid _ := e3
      clear e3
      have K3 : Kept b w w3 := Kept.trans K2 k3
      have B0_3 : Arr w.heap.size [.int .i64 p.1, .int .i64 p.2.1, .int .i64 p.2.2.1, .int .i64 p.2.2.2.1, .int .i64 p.2.2.2.2.1, .int .i64 p.2.2.2.2.2] w3 := B0_2.kept k3 (by omega)
      have B1_3 : Arr (w.heap.size + 1) [.int .i64 0, .int .i64 0, .int .i64 0, .int .i64 0, .int .i64 0, .int .i64 0, .int .i64 0, .int .i64 0, .int .i64 0] w3 := B1_2.kept k3 (by omega)
      have B2_3 : Arr w1.heap.size [.int .i64 r1.1.1, .int .i64 r1.1.2.1, .int .i64 r1.1.2.2] w3 := B2_2.kept k3 (by omega)
      have z3 := B2_3.lies
      clear hHeld
      refine hK.out _ _ ⟨B2_3, B0_3⟩ (fun hHeld => ?_)
      clear hK K K2 f2 B0_2 B1_2 B2_2 k3
      refine call_at2 (i0 := 8) (i1 := 9) (by kernel_rfl) rfl rfl (fun K hK => ?_) (fun K hK => ?_)
      · go_simp
        refine (uUnit_any b r3.2 r3.1 _ f3).mono ?_
        rintro e w4 ⟨rfl, f4, k4⟩
        generalize e4 : uUnitS r3.2 r3.1 = r4 at f4 ⊢
        have E4 : Hid _ := e4
        clear e4
        have K4 : Kept b w w4 := Kept.trans K3 k4
        have B0_4 : Arr w.heap.size [.int .i64 p.1, .int .i64 p.2.1, .int .i64 p.2.2.1, .int .i64 p.2.2.2.1, .int .i64 p.2.2.2.2.1, .int .i64 p.2.2.2.2.2] w4 := B0_3.kept k4 (by omega)
        have B1_4 : Arr (w.heap.size + 1) [.int .i64 0, .int .i64 0, .int .i64 0, .int .i64 0, .int .i64 0, .int .i64 0, .int .i64 0, .int .i64 0, .int .i64 0] w4 := B1_3.kept k4 (by omega)
        have B2_4 : Arr w1.heap.size [.int .i64 r1.1.1, .int .i64 r1.1.2.1, .int .i64 r1.1.2.2] w4 := B2_3.kept k4 (by omega)
        have z4 := B2_4.lies
        clear hHeld
        refine hK.out _ _ ⟨B2_4, B0_4⟩ (fun hHeld => ?_)
        clear hK K K3 f3 B0_3 B1_3 B2_3 k4
        refine call_at (i := 9) (by kernel_rfl) rfl (fun K hK => ?_)
        go_simp
        clear hHeld
        refine hK.out _ _ ⟨(B2_4.alloc _), (B0_4.alloc _)⟩ (fun hHeld => ?_)
        clear hK K
        refine call_at (i := 10) (by kernel_rfl) rfl (fun K hK => ?_)
        go_simp
        clear hHeld
        refine hK.out _ _ ⟨(B2_4.alloc _), (B0_4.alloc _)⟩ (fun hHeld => ?_)
        clear hK K
        refine wpAnyH_done (by kernel_rfl) ?_ _
        clear hHeld
        exact cont1 _ _ _ _ _ _ _ _ _ _ _ _ _ _ w4.heap.size r2 r3 r4 E2 E3 E4 (K4.al _) (f4.alloc _) (B0_4.alloc _) (B1_4.alloc _) (B2_4.alloc _) (Arr_at _ _ [.int .i64 r4.1.1, .int .i64 r4.1.2.1, .int .i64 r4.1.2.2] _ (by simp)) (by omega) (by omega) (by omega) (by omega) (by omega)
      · go_simp
        clear hHeld
        refine hK.out _ _ ⟨(B2_3.alloc _), (B0_3.alloc _)⟩ (fun hHeld => ?_)
        clear hK K
        refine call_at (i := 8) (by kernel_rfl) rfl (fun K hK => ?_)
        go_simp
        refine (uUnit_any b r3.2 r3.1 _ (f3.alloc _)).mono ?_
        rintro e w4 ⟨rfl, f4, k4⟩
        generalize e4 : uUnitS r3.2 r3.1 = r4 at f4 ⊢
        have E4 : Hid _ := e4
        clear e4
        have K4 : Kept b w w4 := Kept.trans (K3.al _) k4
        have B0_4 : Arr w.heap.size [.int .i64 p.1, .int .i64 p.2.1, .int .i64 p.2.2.1, .int .i64 p.2.2.2.1, .int .i64 p.2.2.2.2.1, .int .i64 p.2.2.2.2.2] w4 := (B0_3.alloc _).kept k4 (by omega)
        have B1_4 : Arr (w.heap.size + 1) [.int .i64 0, .int .i64 0, .int .i64 0, .int .i64 0, .int .i64 0, .int .i64 0, .int .i64 0, .int .i64 0, .int .i64 0] w4 := (B1_3.alloc _).kept k4 (by omega)
        have B2_4 : Arr w1.heap.size [.int .i64 r1.1.1, .int .i64 r1.1.2.1, .int .i64 r1.1.2.2] w4 := (B2_3.alloc _).kept k4 (by omega)
        have B3_4 : Arr w3.heap.size [.int .i64 0, .int .i64 0, .int .i64 0] w4 := (Arr_at _ _ [.int .i64 0, .int .i64 0, .int .i64 0] _ (by simp)).kept k4 (by omega)
        have z4 := B3_4.lies
        clear hHeld
        refine hK.out _ _ ⟨B2_4, B0_4⟩ (fun hHeld => ?_)
        clear hK K K3 f3 B0_3 B1_3 B2_3 k4
        refine call_at (i := 10) (by kernel_rfl) rfl (fun K hK => ?_)
        have c4_B3_0 : w4.cell? ⟨w3.heap.size, 0, none⟩ = some (.int .i64 0) := B3_4.c 0 (of_decide_eq_true rfl)
        have c4_B3_1 : w4.cell? ⟨w3.heap.size, 1, none⟩ = some (.int .i64 0) := B3_4.c 1 (of_decide_eq_true rfl)
        have c4_B3_2 : w4.cell? ⟨w3.heap.size, 2, none⟩ = some (.int .i64 0) := B3_4.c 2 (of_decide_eq_true rfl)
        have g4_B3_0 := B3_4.f 0 (of_decide_eq_true rfl)
        have g4_B3_1 := B3_4.f 1 (of_decide_eq_true rfl)
        have g4_B3_2 := B3_4.f 2 (of_decide_eq_true rfl)
        go_simp
        clear hHeld
        refine hK.out _ _ ⟨(((B2_4.new w3.heap.size 0 (by omega) (.int .i64 r4.1.1)).new w3.heap.size 1 (by omega) (.int .i64 r4.1.2.1)).new w3.heap.size 2 (by omega) (.int .i64 r4.1.2.2)), (((B0_4.new w3.heap.size 0 (by omega) (.int .i64 r4.1.1)).new w3.heap.size 1 (by omega) (.int .i64 r4.1.2.1)).new w3.heap.size 2 (by omega) (.int .i64 r4.1.2.2))⟩ (fun hHeld => ?_)
        clear hK K c4_B3_0 c4_B3_1 c4_B3_2 g4_B3_0 g4_B3_1 g4_B3_2
        refine wpAnyH_done (by kernel_rfl) ?_ _
        clear hHeld
        exact cont1 _ _ _ _ _ _ _ _ _ _ _ _ _ _ w3.heap.size r2 r3 r4 E2 E3 E4 (((K4.new _ _ (by omega) _).new _ _ (by omega) _).new _ _ (by omega) _) (((f4.new w3.heap.size 0 (by omega) (.int .i64 r4.1.1)).new w3.heap.size 1 (by omega) (.int .i64 r4.1.2.1)).new w3.heap.size 2 (by omega) (.int .i64 r4.1.2.2)) (((B0_4.new w3.heap.size 0 (by omega) (.int .i64 r4.1.1)).new w3.heap.size 1 (by omega) (.int .i64 r4.1.2.1)).new w3.heap.size 2 (by omega) (.int .i64 r4.1.2.2)) (((B1_4.new w3.heap.size 0 (by omega) (.int .i64 r4.1.1)).new w3.heap.size 1 (by omega) (.int .i64 r4.1.2.1)).new w3.heap.size 2 (by omega) (.int .i64 r4.1.2.2)) (((B2_4.new w3.heap.size 0 (by omega) (.int .i64 r4.1.1)).new w3.heap.size 1 (by omega) (.int .i64 r4.1.2.1)).new w3.heap.size 2 (by omega) (.int .i64 r4.1.2.2)) (((B3_4.put 0 (of_decide_eq_true rfl) (.int .i64 r4.1.1) [.int .i64 r4.1.1, .int .i64 0, .int .i64 0] rfl).put 1 (of_decide_eq_true rfl) (.int .i64 r4.1.2.1) [.int .i64 r4.1.1, .int .i64 r4.1.2.1, .int .i64 0] rfl).put 2 (of_decide_eq_true rfl) (.int .i64 r4.1.2.2) [.int .i64 r4.1.1, .int .i64 r4.1.2.1, .int .i64 r4.1.2.2] rfl) (by omega) (by omega) (by omega) (by omega) (by omega)
    · go_simp
      clear hHeld
      refine hK.out _ _ ⟨(B2_2.alloc _), (B0_2.alloc _)⟩ (fun hHeld => ?_)
      clear hK K
      refine call_at (i := 7) (by kernel_rfl) rfl (fun K hK => ?_)
      go_simp
      refine (uCross_any b r2.2 r1.1 r2.1 _ (f2.alloc _)).mono ?_
      rintro e w3 ⟨rfl, f3, k3⟩
      generalize e3 : uCrossS r2.2 r1.1 r2.1 = r3 at f3 ⊢
      have E3 : Hid _ := e3
      clear e3
      have K3 : Kept b w w3 := Kept.trans (K2.al _) k3
      have B0_3 : Arr w.heap.size [.int .i64 p.1, .int .i64 p.2.1, .int .i64 p.2.2.1, .int .i64 p.2.2.2.1, .int .i64 p.2.2.2.2.1, .int .i64 p.2.2.2.2.2] w3 := (B0_2.alloc _).kept k3 (by omega)
      have B1_3 : Arr (w.heap.size + 1) [.int .i64 0, .int .i64 0, .int .i64 0, .int .i64 0, .int .i64 0, .int .i64 0, .int .i64 0, .int .i64 0, .int .i64 0] w3 := (B1_2.alloc _).kept k3 (by omega)
      have B2_3 : Arr w1.heap.size [.int .i64 r1.1.1, .int .i64 r1.1.2.1, .int .i64 r1.1.2.2] w3 := (B2_2.alloc _).kept k3 (by omega)
      have B3_3 : Arr w2.heap.size [.int .i64 0, .int .i64 0, .int .i64 0] w3 := (Arr_at _ _ [.int .i64 0, .int .i64 0, .int .i64 0] _ (by simp)).kept k3 (by omega)
      have z3 := B3_3.lies
      clear hHeld
      refine hK.out _ _ ⟨B2_3, B0_3⟩ (fun hHeld => ?_)
      clear hK K K2 f2 B0_2 B1_2 B2_2 k3
      refine call_at (i := 8) (by kernel_rfl) rfl (fun K hK => ?_)
      go_simp
      refine (uUnit_any b r3.2 r3.1 _ f3).mono ?_
      rintro e w4 ⟨rfl, f4, k4⟩
      generalize e4 : uUnitS r3.2 r3.1 = r4 at f4 ⊢
      have E4 : Hid _ := e4
      clear e4
      have K4 : Kept b w w4 := Kept.trans K3 k4
      have B0_4 : Arr w.heap.size [.int .i64 p.1, .int .i64 p.2.1, .int .i64 p.2.2.1, .int .i64 p.2.2.2.1, .int .i64 p.2.2.2.2.1, .int .i64 p.2.2.2.2.2] w4 := B0_3.kept k4 (by omega)
      have B1_4 : Arr (w.heap.size + 1) [.int .i64 0, .int .i64 0, .int .i64 0, .int .i64 0, .int .i64 0, .int .i64 0, .int .i64 0, .int .i64 0, .int .i64 0] w4 := B1_3.kept k4 (by omega)
      have B2_4 : Arr w1.heap.size [.int .i64 r1.1.1, .int .i64 r1.1.2.1, .int .i64 r1.1.2.2] w4 := B2_3.kept k4 (by omega)
      have B3_4 : Arr w2.heap.size [.int .i64 0, .int .i64 0, .int .i64 0] w4 := B3_3.kept k4 (by omega)
      have z4 := B3_4.lies
      clear hHeld
      refine hK.out _ _ ⟨B2_4, B0_4⟩ (fun hHeld => ?_)
      clear hK K K3 f3 B0_3 B1_3 B2_3 B3_3 k4
      refine call_at (i := 10) (by kernel_rfl) rfl (fun K hK => ?_)
      have c4_B3_0 : w4.cell? ⟨w2.heap.size, 0, none⟩ = some (.int .i64 0) := B3_4.c 0 (of_decide_eq_true rfl)
      have c4_B3_1 : w4.cell? ⟨w2.heap.size, 1, none⟩ = some (.int .i64 0) := B3_4.c 1 (of_decide_eq_true rfl)
      have c4_B3_2 : w4.cell? ⟨w2.heap.size, 2, none⟩ = some (.int .i64 0) := B3_4.c 2 (of_decide_eq_true rfl)
      have g4_B3_0 := B3_4.f 0 (of_decide_eq_true rfl)
      have g4_B3_1 := B3_4.f 1 (of_decide_eq_true rfl)
      have g4_B3_2 := B3_4.f 2 (of_decide_eq_true rfl)
      go_simp
      clear hHeld
      refine hK.out _ _ ⟨(((B2_4.new w2.heap.size 0 (by omega) (.int .i64 r4.1.1)).new w2.heap.size 1 (by omega) (.int .i64 r4.1.2.1)).new w2.heap.size 2 (by omega) (.int .i64 r4.1.2.2)), (((B0_4.new w2.heap.size 0 (by omega) (.int .i64 r4.1.1)).new w2.heap.size 1 (by omega) (.int .i64 r4.1.2.1)).new w2.heap.size 2 (by omega) (.int .i64 r4.1.2.2))⟩ (fun hHeld => ?_)
      clear hK K c4_B3_0 c4_B3_1 c4_B3_2 g4_B3_0 g4_B3_1 g4_B3_2
      refine wpAnyH_done (by kernel_rfl) ?_ _
      clear hHeld
      exact cont1 _ _ _ _ _ _ _ _ _ _ _ _ _ _ w2.heap.size r2 r3 r4 E2 E3 E4 (((K4.new _ _ (by omega) _).new _ _ (by omega) _).new _ _ (by omega) _) (((f4.new w2.heap.size 0 (by omega) (.int .i64 r4.1.1)).new w2.heap.size 1 (by omega) (.int .i64 r4.1.2.1)).new w2.heap.size 2 (by omega) (.int .i64 r4.1.2.2)) (((B0_4.new w2.heap.size 0 (by omega) (.int .i64 r4.1.1)).new w2.heap.size 1 (by omega) (.int .i64 r4.1.2.1)).new w2.heap.size 2 (by omega) (.int .i64 r4.1.2.2)) (((B1_4.new w2.heap.size 0 (by omega) (.int .i64 r4.1.1)).new w2.heap.size 1 (by omega) (.int .i64 r4.1.2.1)).new w2.heap.size 2 (by omega) (.int .i64 r4.1.2.2)) (((B2_4.new w2.heap.size 0 (by omega) (.int .i64 r4.1.1)).new w2.heap.size 1 (by omega) (.int .i64 r4.1.2.1)).new w2.heap.size 2 (by omega) (.int .i64 r4.1.2.2)) (((B3_4.put 0 (of_decide_eq_true rfl) (.int .i64 r4.1.1) [.int .i64 r4.1.1, .int .i64 0, .int .i64 0] rfl).put 1 (of_decide_eq_true rfl) (.int .i64 r4.1.2.1) [.int .i64 r4.1.1, .int .i64 r4.1.2.1, .int .i64 0] rfl).put 2 (of_decide_eq_true rfl) (.int .i64 r4.1.2.2) [.int .i64 r4.1.1, .int .i64 r4.1.2.1, .int .i64 r4.1.2.2] rfl) (by omega) (by omega) (by omega) (by omega) (by omega)
  · go_simp
    clear hHeld
    refine hK.out _ _ ⟨((Arr_at _ _ [.int .i64 r1.1.1, .int .i64 r1.1.2.1, .int .i64 r1.1.2.2] _ (by simp)).alloc _).drew, ((B0_1.alloc _).alloc _).drew⟩ (fun hHeld => ?_)
    clear hK K
    refine call_at (i := 6) (by kernel_rfl) rfl (fun K hK => ?_)
    go_simp
    refine (uUnit_any b r1.2 p.2.2.2 _ ((f1.alloc _).alloc _).drew).mono ?_
    rintro e w2 ⟨rfl, f2, k2⟩
    generalize e2 : uUnitS r1.2 p.2.2.2 = r2 at f2 ⊢
    have E2 : Hid _ := e2
    clear e2
    have K2 : Kept b w w2 := Kept.trans ((K1.al _).al _).drew k2
    have B0_2 : Arr w.heap.size [.int .i64 p.1, .int .i64 p.2.1, .int .i64 p.2.2.1, .int .i64 p.2.2.2.1, .int .i64 p.2.2.2.2.1, .int .i64 p.2.2.2.2.2] w2 := ((B0_1.alloc _).alloc _).drew.kept k2 (by omega)
    have B1_2 : Arr (w.heap.size + 1) [.int .i64 0, .int .i64 0, .int .i64 0, .int .i64 0, .int .i64 0, .int .i64 0, .int .i64 0, .int .i64 0, .int .i64 0] w2 := ((B1_1.alloc _).alloc _).drew.kept k2 (by omega)
    have B2_2 : Arr w1.heap.size [.int .i64 r1.1.1, .int .i64 r1.1.2.1, .int .i64 r1.1.2.2] w2 := ((Arr_at _ _ [.int .i64 r1.1.1, .int .i64 r1.1.2.1, .int .i64 r1.1.2.2] _ (by simp)).alloc _).drew.kept k2 (by omega)
    have B3_2 : Arr (w1.heap.size + 1) [.int .i64 0, .int .i64 0, .int .i64 0] w2 := (Arr_at _ _ [.int .i64 0, .int .i64 0, .int .i64 0] _ (by simp)).drew.kept k2 (by omega)
    have z2 := B3_2.lies
    clear hHeld
    refine hK.out _ _ ⟨B2_2, B0_2⟩ (fun hHeld => ?_)
    clear hK K K1 f1 B0_1 B1_1 k2
    refine call_at (i := 7) (by kernel_rfl) rfl (fun K hK => ?_)
    go_simp
    refine (uCross_any b r2.2 r1.1 r2.1 _ f2).mono ?_
    rintro e w3 ⟨rfl, f3, k3⟩
    generalize e3 : uCrossS r2.2 r1.1 r2.1 = r3 at f3 ⊢
    have E3 : Hid _ := e3
    clear e3
    have K3 : Kept b w w3 := Kept.trans K2 k3
    have B0_3 : Arr w.heap.size [.int .i64 p.1, .int .i64 p.2.1, .int .i64 p.2.2.1, .int .i64 p.2.2.2.1, .int .i64 p.2.2.2.2.1, .int .i64 p.2.2.2.2.2] w3 := B0_2.kept k3 (by omega)
    have B1_3 : Arr (w.heap.size + 1) [.int .i64 0, .int .i64 0, .int .i64 0, .int .i64 0, .int .i64 0, .int .i64 0, .int .i64 0, .int .i64 0, .int .i64 0] w3 := B1_2.kept k3 (by omega)
    have B2_3 : Arr w1.heap.size [.int .i64 r1.1.1, .int .i64 r1.1.2.1, .int .i64 r1.1.2.2] w3 := B2_2.kept k3 (by omega)
    have B3_3 : Arr (w1.heap.size + 1) [.int .i64 0, .int .i64 0, .int .i64 0] w3 := B3_2.kept k3 (by omega)
    have z3 := B3_3.lies
    clear hHeld
    refine hK.out _ _ ⟨B2_3, B0_3⟩ (fun hHeld => ?_)
    clear hK K K2 f2 B0_2 B1_2 B2_2 B3_2 k3
    refine call_at (i := 8) (by kernel_rfl) rfl (fun K hK => ?_)
    go_simp
    refine (uUnit_any b r3.2 r3.1 _ f3).mono ?_
    rintro e w4 ⟨rfl, f4, k4⟩
    generalize e4 : uUnitS r3.2 r3.1 = r4 at f4 ⊢
    have E4 : Hid _ := e4
    clear e4
    have K4 : Kept b w w4 := Kept.trans K3 k4
    have B0_4 : Arr w.heap.size [.int .i64 p.1, .int .i64 p.2.1, .int .i64 p.2.2.1, .int .i64 p.2.2.2.1, .int .i64 p.2.2.2.2.1, .int .i64 p.2.2.2.2.2] w4 := B0_3.kept k4 (by omega)
    have B1_4 : Arr (w.heap.size + 1) [.int .i64 0, .int .i64 0, .int .i64 0, .int .i64 0, .int .i64 0, .int .i64 0, .int .i64 0, .int .i64 0, .int .i64 0] w4 := B1_3.kept k4 (by omega)
    have B2_4 : Arr w1.heap.size [.int .i64 r1.1.1, .int .i64 r1.1.2.1, .int .i64 r1.1.2.2] w4 := B2_3.kept k4 (by omega)
    have B3_4 : Arr (w1.heap.size + 1) [.int .i64 0, .int .i64 0, .int .i64 0] w4 := B3_3.kept k4 (by omega)
    have z4 := B3_4.lies
    clear hHeld
    refine hK.out _ _ ⟨B2_4, B0_4⟩ (fun hHeld => ?_)
    clear hK K K3 f3 B0_3 B1_3 B2_3 B3_3 k4
    refine call_at (i := 10) (by kernel_rfl) rfl (fun K hK => ?_)
    have c4_B3_0 : w4.cell? ⟨w1.heap.size + 1, 0, none⟩ = some (.int .i64 0) := B3_4.c 0 (of_decide_eq_true rfl)
    have c4_B3_1 : w4.cell? ⟨w1.heap.size + 1, 1, none⟩ = some (.int .i64 0) := B3_4.c 1 (of_decide_eq_true rfl)
    have c4_B3_2 : w4.cell? ⟨w1.heap.size + 1, 2, none⟩ = some (.int .i64 0) := B3_4.c 2 (of_decide_eq_true rfl)
    have g4_B3_0 := B3_4.f 0 (of_decide_eq_true rfl)
    have g4_B3_1 := B3_4.f 1 (of_decide_eq_true rfl)
    have g4_B3_2 := B3_4.f 2 (of_decide_eq_true rfl)
    go_simp
    clear hHeld
    refine hK.out _ _ ⟨(((B2_4.new (w1.heap.size + 1) 0 (by omega) (.int .i64 r4.1.1)).new (w1.heap.size + 1) 1 (by omega) (.int .i64 r4.1.2.1)).new (w1.heap.size + 1) 2 (by omega) (.int .i64 r4.1.2.2)), (((B0_4.new (w1.heap.size + 1) 0 (by omega) (.int .i64 r4.1.1)).new (w1.heap.size + 1) 1 (by omega) (.int .i64 r4.1.2.1)).new (w1.heap.size + 1) 2 (by omega) (.int .i64 r4.1.2.2))⟩ (fun hHeld => ?_)
    clear hK K c4_B3_0 c4_B3_1 c4_B3_2 g4_B3_0 g4_B3_1 g4_B3_2
    refine wpAnyH_done (by kernel_rfl) ?_ _
    clear hHeld
    exact cont1 _ _ _ _ _ _ _ _ _ _ _ _ _ _ (w1.heap.size + 1) r2 r3 r4 E2 E3 E4 (((K4.new _ _ (by omega) _).new _ _ (by omega) _).new _ _ (by omega) _) (((f4.new (w1.heap.size + 1) 0 (by omega) (.int .i64 r4.1.1)).new (w1.heap.size + 1) 1 (by omega) (.int .i64 r4.1.2.1)).new (w1.heap.size + 1) 2 (by omega) (.int .i64 r4.1.2.2)) (((B0_4.new (w1.heap.size + 1) 0 (by omega) (.int .i64 r4.1.1)).new (w1.heap.size + 1) 1 (by omega) (.int .i64 r4.1.2.1)).new (w1.heap.size + 1) 2 (by omega) (.int .i64 r4.1.2.2)) (((B1_4.new (w1.heap.size + 1) 0 (by omega) (.int .i64 r4.1.1)).new (w1.heap.size + 1) 1 (by omega) (.int .i64 r4.1.2.1)).new (w1.heap.size + 1) 2 (by omega) (.int .i64 r4.1.2.2)) (((B2_4.new (w1.heap.size + 1) 0 (by omega) (.int .i64 r4.1.1)).new (w1.heap.size + 1) 1 (by omega) (.int .i64 r4.1.2.1)).new (w1.heap.size + 1) 2 (by omega) (.int .i64 r4.1.2.2)) (((B3_4.put 0 (of_decide_eq_true rfl) (.int .i64 r4.1.1) [.int .i64 r4.1.1, .int .i64 0, .int .i64 0] rfl).put 1 (of_decide_eq_true rfl) (.int .i64 r4.1.2.1) [.int .i64 r4.1.1, .int .i64 r4.1.2.1, .int .i64 0] rfl).put 2 (of_decide_eq_true rfl) (.int .i64 r4.1.2.2) [.int .i64 r4.1.1, .int .i64 r4.1.2.1, .int .i64 r4.1.2.2] rfl) (by omega) (by omega) (by omega) (by omega) (by omega)
end Go.Proofs.Ytkeijfbpkdelpaa
