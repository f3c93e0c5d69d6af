/- A part. -/
import Derived.Test.YtpjobkbefgehjaaGreatJC
import Derived.Test.YtpjobkbefgehjaaGreatJV
import Derived.Test.YtpjobkbefgehjaaGreatJU
import Derived.Test.YtpjobkbefgehjaaGreatJW
import Derived.Test.YtpjobkbefgehjaaGreatJX
import Derived.Handy
import Derived.Deep.RegionHeld3
namespace Go.Proofs.YtpjobkbefgehjaaGreat
open Go.RowKit
set_option maxRecDepth 100000
set_option maxHeartbeats 20000000
theorem fMeet_any (b : Nat) (bad : Bool) (g : Nat → Int) (sky : Nat → Int) (body : Nat → Int) (w : World) (hw : Fl b bad w) :
  Calls Tryz.prog 9 #[.pointer (some ⟨b, 0, none⟩), .agg (row 43 g).toArray, .agg (row 6 sky).toArray, .agg (row 6 body).toArray] w fun e w' => e = .returned (.tuple #[.agg (row 43 ((fMeetS bad g sky body).1).1).toArray, .int .i64 ((fMeetS bad g sky body).1).2.1, .bool ((fMeetS bad g sky body).1).2.2]) ∧ Fl b (fMeetS bad g sky body).2 w' ∧ Kept b w w' := by
 have hl := hw.lies
 go_enter Tryz.func9, Tryz.ntmps9
 have y1_BF := hw.lies
 have y2_BF : b < w.heap.size + 1 := (Nat.lt_succ_of_lt hw.lies)
 have y2_B0 : w.heap.size < w.heap.size + 1 := by omega
 have y3_BF : b < w.heap.size + 1 + 1 := (Nat.lt_succ_of_lt (Nat.lt_succ_of_lt hw.lies))
 have y3_B0 : w.heap.size < w.heap.size + 1 + 1 := by omega
 have y3_B1 : w.heap.size + 1 < w.heap.size + 1 + 1 := by omega
 have y4_BF : b < w.heap.size + 1 + 1 + 1 := (Nat.lt_succ_of_lt (Nat.lt_succ_of_lt (Nat.lt_succ_of_lt hw.lies)))
 have y4_B0 : w.heap.size < w.heap.size + 1 + 1 + 1 := by omega
 have y4_B1 : w.heap.size + 1 < w.heap.size + 1 + 1 + 1 := by omega
 have y4_B2 : w.heap.size + 1 + 1 < w.heap.size + 1 + 1 + 1 := by omega
 go_wp2_with fail
 refine wp_loop_rounds 3 ?_
 refine rounds_letter (S := fun w' => Kept b w w' ∧ Fl b bad w' ∧ Arr w.heap.size (row 43 g) w' ∧ Arr (w.heap.size + 1) (row 6 sky) w' ∧ Arr (w.heap.size + 1 + 1) (row 6 body) w' ∧ Arr (w.heap.size + 1 + 1 + 1) (row 43 (fun _ => 0)) w') ⟨(((((Kept.refl b w).al _).al _).al _).al _), ((((hw.alloc _).alloc _).alloc _).alloc _), ((((Arr_at _ _ (row 43 g) _ (by simp)).alloc _).alloc _).alloc _), (((Arr_at _ _ (row 6 sky) _ (by simp)).alloc _).alloc _), ((Arr_at _ _ (row 6 body) _ (by simp)).alloc _), (Arr_at _ _ (row 43 (fun _ => 0)) _ (by simp))⟩ ?_
 rintro w1 ⟨K1, BF_1, B0_1, B1_1, B2_1, B3_1⟩
 have z1 := B3_1.lies
 rw [rounds_succ]
 have c2_B1_0 : w1.cell? ⟨w.heap.size + 1, 0, none⟩ = some (.int .i64 (sky 0)) := row_c B1_1 0 (by omega)
 have c2_B1_1 : w1.cell? ⟨w.heap.size + 1, 1, none⟩ = some (.int .i64 (sky 1)) := row_c B1_1 1 (by omega)
 have c2_B1_2 : w1.cell? ⟨w.heap.size + 1, 2, none⟩ = some (.int .i64 (sky 2)) := row_c B1_1 2 (by omega)
 go_wp2_with fail
 refine (yvUnit_any b bad ((sky 0), (sky 1), (sky 2)) _ BF_1).mono ?_
 rintro e w2 ⟨rfl, f2, k2⟩
 generalize e2 : vUnitS bad ((sky 0), (sky 1), (sky 2)) = r2 at f2 ⊢
 have E2 : Hid _ := e2
 clear e2
 try dsimp only
 have K2 := Kept.trans K1 k2
 have B0_2 := B0_1.kept k2 (zG y1_BF)
 have B1_2 := B1_1.kept k2 (zG y2_BF)
 have B2_2 := B2_1.kept k2 (zG y3_BF)
 have B3_2 := B3_1.kept k2 (zG y4_BF)
 have z2 := B3_2.lies
 clear c2_B1_0 c2_B1_1 c2_B1_2 K1 BF_1 B0_1 B1_1 B2_1 B3_1 k2
 have c3_B1_0 : w2.cell? ⟨w.heap.size + 1, 0, none⟩ = some (.int .i64 (sky 0)) := row_c B1_2 0 (by omega)
 have c3_B1_1 : w2.cell? ⟨w.heap.size + 1, 1, none⟩ = some (.int .i64 (sky 1)) := row_c B1_2 1 (by omega)
 have c3_B1_2 : w2.cell? ⟨w.heap.size + 1, 2, none⟩ = some (.int .i64 (sky 2)) := row_c B1_2 2 (by omega)
 have c3_B2_3 : w2.cell? ⟨w.heap.size + 1 + 1, 0, none⟩ = some (.int .i64 (body 0)) := row_c B2_2 0 (by omega)
 have c3_B2_4 : w2.cell? ⟨w.heap.size + 1 + 1, 1, none⟩ = some (.int .i64 (body 1)) := row_c B2_2 1 (by omega)
 have c3_B2_5 : w2.cell? ⟨w.heap.size + 1 + 1, 2, none⟩ = some (.int .i64 (body 2)) := row_c B2_2 2 (by omega)
 have g3_B1_6 := row_f B1_2 0 (by omega)
 have g3_B1_7 := row_f B1_2 1 (by omega)
 have g3_B1_8 := row_f B1_2 2 (by omega)
 go_wp2_with fail
 refine (yvUnit_any b r2.2 ((body 0), (body 1), (body 2)) _ (((f2.new (w.heap.size + 1) 0 (zL y2_BF) (.int .i64 r2.1.1)).new (w.heap.size + 1) 1 (zL y2_BF) (.int .i64 r2.1.2.1)).new (w.heap.size + 1) 2 (zL y2_BF) (.int .i64 r2.1.2.2))).mono ?_
 rintro e w3 ⟨rfl, f3, k3⟩
 generalize e3 : vUnitS r2.2 ((body 0), (body 1), (body 2)) = r3 at f3 ⊢
 have E3 : Hid _ := e3
 clear e3
 try dsimp only
 have K3 : Kept b w w3 := Kept.trans (((K2.new _ _ (by omega) _).new _ _ (by omega) _).new _ _ (by omega) _) k3
 have B0_3 := (((B0_2.new (w.heap.size + 1) 0 (zL y2_B0) (.int .i64 r2.1.1)).new (w.heap.size + 1) 1 (zL y2_B0) (.int .i64 r2.1.2.1)).new (w.heap.size + 1) 2 (zL y2_B0) (.int .i64 r2.1.2.2)).kept k3 (zG y1_BF)
 have B1_3 := (row_put (row_put (row_put B1_2 0 (by omega) r2.1.1) 1 (by omega) r2.1.2.1) 2 (by omega) r2.1.2.2).kept k3 (zG y2_BF)
 have B2_3 := (((B2_2.new (w.heap.size + 1) 0 (zG y3_B1) (.int .i64 r2.1.1)).new (w.heap.size + 1) 1 (zG y3_B1) (.int .i64 r2.1.2.1)).new (w.heap.size + 1) 2 (zG y3_B1) (.int .i64 r2.1.2.2)).kept k3 (zG y3_BF)
 have B3_3 := (((B3_2.new (w.heap.size + 1) 0 (zG y4_B1) (.int .i64 r2.1.1)).new (w.heap.size + 1) 1 (zG y4_B1) (.int .i64 r2.1.2.1)).new (w.heap.size + 1) 2 (zG y4_B1) (.int .i64 r2.1.2.2)).kept k3 (zG y4_BF)
 have z3 := B3_3.lies
 clear c3_B1_0 c3_B1_1 c3_B1_2 c3_B2_3 c3_B2_4 c3_B2_5 g3_B1_6 g3_B1_7 g3_B1_8 K2 f2 B0_2 B1_2 B2_2 B3_2 k3
 have c4_B2_0 : w3.cell? ⟨w.heap.size + 1 + 1, 0, none⟩ = some (.int .i64 (body 0)) := row_c B2_3 0 (by omega)
 have c4_B2_1 : w3.cell? ⟨w.heap.size + 1 + 1, 1, none⟩ = some (.int .i64 (body 1)) := row_c B2_3 1 (by omega)
 have c4_B2_2 : w3.cell? ⟨w.heap.size + 1 + 1, 2, none⟩ = some (.int .i64 (body 2)) := row_c B2_3 2 (by omega)
 have g4_B2_3 := row_f B2_3 0 (by omega)
 have g4_B2_4 := row_f B2_3 1 (by omega)
 have g4_B2_5 := row_f B2_3 2 (by omega)
 go_wp2_with fail
 clear c4_B2_0 c4_B2_1 c4_B2_2 g4_B2_3 g4_B2_4 g4_B2_5
 refine rounds_letter (S := fun w' => Kept b w w' ∧ Fl b r3.2 w' ∧ Arr w.heap.size (row 43 g) w' ∧ Arr (w.heap.size + 1) (row 6 (updF (updF (updF sky 0 r2.1.1) 1 r2.1.2.1) 2 r2.1.2.2)) w' ∧ Arr (w.heap.size + 1 + 1) (row 6 (updF (updF (updF body 0 r3.1.1) 1 r3.1.2.1) 2 r3.1.2.2)) w' ∧ Arr (w.heap.size + 1 + 1 + 1) (row 43 (fun _ => 0)) w') ⟨(((K3.new _ _ (by omega) _).new _ _ (by omega) _).new _ _ (by omega) _), (((f3.new (w.heap.size + 1 + 1) 0 (zL y3_BF) (.int .i64 r3.1.1)).new (w.heap.size + 1 + 1) 1 (zL y3_BF) (.int .i64 r3.1.2.1)).new (w.heap.size + 1 + 1) 2 (zL y3_BF) (.int .i64 r3.1.2.2)), (((B0_3.new (w.heap.size + 1 + 1) 0 (zL y3_B0) (.int .i64 r3.1.1)).new (w.heap.size + 1 + 1) 1 (zL y3_B0) (.int .i64 r3.1.2.1)).new (w.heap.size + 1 + 1) 2 (zL y3_B0) (.int .i64 r3.1.2.2)), (((B1_3.new (w.heap.size + 1 + 1) 0 (zL y3_B1) (.int .i64 r3.1.1)).new (w.heap.size + 1 + 1) 1 (zL y3_B1) (.int .i64 r3.1.2.1)).new (w.heap.size + 1 + 1) 2 (zL y3_B1) (.int .i64 r3.1.2.2)), (row_put (row_put (row_put B2_3 0 (by omega) r3.1.1) 1 (by omega) r3.1.2.1) 2 (by omega) r3.1.2.2), (((B3_3.new (w.heap.size + 1 + 1) 0 (zG y4_B2) (.int .i64 r3.1.1)).new (w.heap.size + 1 + 1) 1 (zG y4_B2) (.int .i64 r3.1.2.1)).new (w.heap.size + 1 + 1) 2 (zG y4_B2) (.int .i64 r3.1.2.2))⟩ ?_
 rintro w4 ⟨K4, BF_4, B0_4, B1_4, B2_4, B3_4⟩
 have z4 := B3_4.lies
 clear K3 f3 B0_3 B1_3 B2_3 B3_3
 rw [rounds_succ]
 have c5_B1_0 : w4.cell? ⟨w.heap.size + 1, 3, none⟩ = some (.int .i64 ((updF (updF (updF sky 0 r2.1.1) 1 r2.1.2.1) 2 r2.1.2.2) 3)) := row_c B1_4 3 (by omega)
 have c5_B1_1 : w4.cell? ⟨w.heap.size + 1, 4, none⟩ = some (.int .i64 ((updF (updF (updF sky 0 r2.1.1) 1 r2.1.2.1) 2 r2.1.2.2) 4)) := row_c B1_4 4 (by omega)
 have c5_B1_2 : w4.cell? ⟨w.heap.size + 1, 5, none⟩ = some (.int .i64 ((updF (updF (updF sky 0 r2.1.1) 1 r2.1.2.1) 2 r2.1.2.2) 5)) := row_c B1_4 5 (by omega)
 go_wp2_with fail
 refine (yvUnit_any b r3.2 (((updF (updF (updF sky 0 r2.1.1) 1 r2.1.2.1) 2 r2.1.2.2) 3), ((updF (updF (updF sky 0 r2.1.1) 1 r2.1.2.1) 2 r2.1.2.2) 4), ((updF (updF (updF sky 0 r2.1.1) 1 r2.1.2.1) 2 r2.1.2.2) 5)) _ BF_4).mono ?_
 rintro e w5 ⟨rfl, f5, k5⟩
 generalize e5 : vUnitS r3.2 (((updF (updF (updF sky 0 r2.1.1) 1 r2.1.2.1) 2 r2.1.2.2) 3), ((updF (updF (updF sky 0 r2.1.1) 1 r2.1.2.1) 2 r2.1.2.2) 4), ((updF (updF (updF sky 0 r2.1.1) 1 r2.1.2.1) 2 r2.1.2.2) 5)) = r5 at f5 ⊢
 have E5 : Hid _ := e5
 clear e5
 try dsimp only
 have K5 := Kept.trans K4 k5
 have B0_5 := B0_4.kept k5 (zG y1_BF)
 have B1_5 := B1_4.kept k5 (zG y2_BF)
 have B2_5 := B2_4.kept k5 (zG y3_BF)
 have B3_5 := B3_4.kept k5 (zG y4_BF)
 have z5 := B3_5.lies
 clear c5_B1_0 c5_B1_1 c5_B1_2 K4 BF_4 B0_4 B1_4 B2_4 B3_4 k5
 have c6_B1_0 : w5.cell? ⟨w.heap.size + 1, 3, none⟩ = some (.int .i64 ((updF (updF (updF sky 0 r2.1.1) 1 r2.1.2.1) 2 r2.1.2.2) 3)) := row_c B1_5 3 (by omega)
 have c6_B1_1 : w5.cell? ⟨w.heap.size + 1, 4, none⟩ = some (.int .i64 ((updF (updF (updF sky 0 r2.1.1) 1 r2.1.2.1) 2 r2.1.2.2) 4)) := row_c B1_5 4 (by omega)
 have c6_B1_2 : w5.cell? ⟨w.heap.size + 1, 5, none⟩ = some (.int .i64 ((updF (updF (updF sky 0 r2.1.1) 1 r2.1.2.1) 2 r2.1.2.2) 5)) := row_c B1_5 5 (by omega)
 have c6_B2_3 : w5.cell? ⟨w.heap.size + 1 + 1, 3, none⟩ = some (.int .i64 ((updF (updF (updF body 0 r3.1.1) 1 r3.1.2.1) 2 r3.1.2.2) 3)) := row_c B2_5 3 (by omega)
 have c6_B2_4 : w5.cell? ⟨w.heap.size + 1 + 1, 4, none⟩ = some (.int .i64 ((updF (updF (updF body 0 r3.1.1) 1 r3.1.2.1) 2 r3.1.2.2) 4)) := row_c B2_5 4 (by omega)
 have c6_B2_5 : w5.cell? ⟨w.heap.size + 1 + 1, 5, none⟩ = some (.int .i64 ((updF (updF (updF body 0 r3.1.1) 1 r3.1.2.1) 2 r3.1.2.2) 5)) := row_c B2_5 5 (by omega)
 have g6_B1_6 := row_f B1_5 3 (by omega)
 have g6_B1_7 := row_f B1_5 4 (by omega)
 have g6_B1_8 := row_f B1_5 5 (by omega)
 go_wp2_with fail
 refine (yvUnit_any b r5.2 (((updF (updF (updF body 0 r3.1.1) 1 r3.1.2.1) 2 r3.1.2.2) 3), ((updF (updF (updF body 0 r3.1.1) 1 r3.1.2.1) 2 r3.1.2.2) 4), ((updF (updF (updF body 0 r3.1.1) 1 r3.1.2.1) 2 r3.1.2.2) 5)) _ (((f5.new (w.heap.size + 1) 3 (zL y2_BF) (.int .i64 r5.1.1)).new (w.heap.size + 1) 4 (zL y2_BF) (.int .i64 r5.1.2.1)).new (w.heap.size + 1) 5 (zL y2_BF) (.int .i64 r5.1.2.2))).mono ?_
 rintro e w6 ⟨rfl, f6, k6⟩
 generalize e6 : vUnitS r5.2 (((updF (updF (updF body 0 r3.1.1) 1 r3.1.2.1) 2 r3.1.2.2) 3), ((updF (updF (updF body 0 r3.1.1) 1 r3.1.2.1) 2 r3.1.2.2) 4), ((updF (updF (updF body 0 r3.1.1) 1 r3.1.2.1) 2 r3.1.2.2) 5)) = r6 at f6 ⊢
 have E6 : Hid _ := e6
 clear e6
 try dsimp only
 have K6 : Kept b w w6 := Kept.trans (((K5.new _ _ (by omega) _).new _ _ (by omega) _).new _ _ (by omega) _) k6
 have B0_6 := (((B0_5.new (w.heap.size + 1) 3 (zL y2_B0) (.int .i64 r5.1.1)).new (w.heap.size + 1) 4 (zL y2_B0) (.int .i64 r5.1.2.1)).new (w.heap.size + 1) 5 (zL y2_B0) (.int .i64 r5.1.2.2)).kept k6 (zG y1_BF)
 have B1_6 := (row_put (row_put (row_put B1_5 3 (by omega) r5.1.1) 4 (by omega) r5.1.2.1) 5 (by omega) r5.1.2.2).kept k6 (zG y2_BF)
 have B2_6 := (((B2_5.new (w.heap.size + 1) 3 (zG y3_B1) (.int .i64 r5.1.1)).new (w.heap.size + 1) 4 (zG y3_B1) (.int .i64 r5.1.2.1)).new (w.heap.size + 1) 5 (zG y3_B1) (.int .i64 r5.1.2.2)).kept k6 (zG y3_BF)
 have B3_6 := (((B3_5.new (w.heap.size + 1) 3 (zG y4_B1) (.int .i64 r5.1.1)).new (w.heap.size + 1) 4 (zG y4_B1) (.int .i64 r5.1.2.1)).new (w.heap.size + 1) 5 (zG y4_B1) (.int .i64 r5.1.2.2)).kept k6 (zG y4_BF)
 have z6 := B3_6.lies
 clear c6_B1_0 c6_B1_1 c6_B1_2 c6_B2_3 c6_B2_4 c6_B2_5 g6_B1_6 g6_B1_7 g6_B1_8 K5 f5 B0_5 B1_5 B2_5 B3_5 k6
 have c7_B2_0 : w6.cell? ⟨w.heap.size + 1 + 1, 3, none⟩ = some (.int .i64 ((updF (updF (updF body 0 r3.1.1) 1 r3.1.2.1) 2 r3.1.2.2) 3)) := row_c B2_6 3 (by omega)
 have c7_B2_1 : w6.cell? ⟨w.heap.size + 1 + 1, 4, none⟩ = some (.int .i64 ((updF (updF (updF body 0 r3.1.1) 1 r3.1.2.1) 2 r3.1.2.2) 4)) := row_c B2_6 4 (by omega)
 have c7_B2_2 : w6.cell? ⟨w.heap.size + 1 + 1, 5, none⟩ = some (.int .i64 ((updF (updF (updF body 0 r3.1.1) 1 r3.1.2.1) 2 r3.1.2.2) 5)) := row_c B2_6 5 (by omega)
 have g7_B2_3 := row_f B2_6 3 (by omega)
 have g7_B2_4 := row_f B2_6 4 (by omega)
 have g7_B2_5 := row_f B2_6 5 (by omega)
 go_wp2_with fail
 clear c7_B2_0 c7_B2_1 c7_B2_2 g7_B2_3 g7_B2_4 g7_B2_5
 refine rounds_letter (S := fun w' => Kept b w w' ∧ Fl b r6.2 w' ∧ Arr w.heap.size (row 43 g) w' ∧ Arr (w.heap.size + 1) (row 6 (updF (updF (updF (updF (updF (updF sky 0 r2.1.1) 1 r2.1.2.1) 2 r2.1.2.2) 3 r5.1.1) 4 r5.1.2.1) 5 r5.1.2.2)) w' ∧ Arr (w.heap.size + 1 + 1) (row 6 (updF (updF (updF (updF (updF (updF body 0 r3.1.1) 1 r3.1.2.1) 2 r3.1.2.2) 3 r6.1.1) 4 r6.1.2.1) 5 r6.1.2.2)) w' ∧ Arr (w.heap.size + 1 + 1 + 1) (row 43 (fun _ => 0)) w') ⟨(((K6.new _ _ (by omega) _).new _ _ (by omega) _).new _ _ (by omega) _), (((f6.new (w.heap.size + 1 + 1) 3 (zL y3_BF) (.int .i64 r6.1.1)).new (w.heap.size + 1 + 1) 4 (zL y3_BF) (.int .i64 r6.1.2.1)).new (w.heap.size + 1 + 1) 5 (zL y3_BF) (.int .i64 r6.1.2.2)), (((B0_6.new (w.heap.size + 1 + 1) 3 (zL y3_B0) (.int .i64 r6.1.1)).new (w.heap.size + 1 + 1) 4 (zL y3_B0) (.int .i64 r6.1.2.1)).new (w.heap.size + 1 + 1) 5 (zL y3_B0) (.int .i64 r6.1.2.2)), (((B1_6.new (w.heap.size + 1 + 1) 3 (zL y3_B1) (.int .i64 r6.1.1)).new (w.heap.size + 1 + 1) 4 (zL y3_B1) (.int .i64 r6.1.2.1)).new (w.heap.size + 1 + 1) 5 (zL y3_B1) (.int .i64 r6.1.2.2)), (row_put (row_put (row_put B2_6 3 (by omega) r6.1.1) 4 (by omega) r6.1.2.1) 5 (by omega) r6.1.2.2), (((B3_6.new (w.heap.size + 1 + 1) 3 (zG y4_B2) (.int .i64 r6.1.1)).new (w.heap.size + 1 + 1) 4 (zG y4_B2) (.int .i64 r6.1.2.1)).new (w.heap.size + 1 + 1) 5 (zG y4_B2) (.int .i64 r6.1.2.2))⟩ ?_
 rintro w7 ⟨K7, BF_7, B0_7, B1_7, B2_7, B3_7⟩
 have z7 := B3_7.lies
 clear K6 f6 B0_6 B1_6 B2_6 B3_6
 rw [rounds_succ]
 go_wp2_with (refine row_load rfl rfl rfl B0_7 (by kernel_rfl) (by rw [row_len]; kernel_rfl) ?_)
 refine (fPoints_any b r6.2 g _ BF_7).mono ?_
 rintro e w8 ⟨rfl, f8, k8⟩
 generalize e8 : fPointsS r6.2 g = r8 at f8 ⊢
 have E8 : Hid _ := e8
 clear e8
 try dsimp only
 have K8 := Kept.trans K7 k8
 have B0_8 := B0_7.kept k8 (zG y1_BF)
 have B1_8 := B1_7.kept k8 (zG y2_BF)
 have B2_8 := B2_7.kept k8 (zG y3_BF)
 have B3_8 := B3_7.kept k8 (zG y4_BF)
 have z8 := B3_8.lies
 clear K7 BF_7 B0_7 B1_7 B2_7 B3_7 k8
 have y5_BF := f8.lies
 have y5_B0 := B0_8.lies
 have y5_B1 := B1_8.lies
 have y5_B2 := B2_8.lies
 have y5_B3 := B3_8.lies
 go_wp2_with (refine store_stop rfl (by kernel_rfl) ?_)
 refine Stop.mk (store_row (l' := row 78 r8.1) rfl rfl rfl rfl (Arr_at _ _ (row 78 (fun _ => 0)) _ (by simp)) (by simp only [row_len]) (by rw [row_len]; kernel_rfl) (row_one _ _) ?_)
 intro w9 B4_9 o9
 have K9 : Kept b w w9 := Kept.off (K8.al _) o9 (by omega)
 have BF_9 := (f8.alloc _).off o9 (zL y5_BF)
 have B0_9 := (B0_8.alloc _).off o9 (zL y5_B0)
 have B1_9 := (B1_8.alloc _).off o9 (zL y5_B1)
 have B2_9 := (B2_8.alloc _).off o9 (zL y5_B2)
 have B3_9 := (B3_8.alloc _).off o9 (zL y5_B3)
 have z9_B4 := B4_9.lies
 have z9_BF := BF_9.lies
 have z9_B0 := B0_9.lies
 have z9_B1 := B1_9.lies
 have z9_B2 := B2_9.lies
 have z9_B3 := B3_9.lies
 clear K8 f8 B0_8 B1_8 B2_8 B3_8 o9
 have y6_BF := BF_9.lies
 have y6_B0 := B0_9.lies
 have y6_B1 := B1_9.lies
 have y6_B2 := B2_9.lies
 have y6_B3 := B3_9.lies
 have y6_B4 := B4_9.lies
 go_wp2_with (refine store_stop rfl (by kernel_rfl) ?_)
 refine Stop.mk (store_row (l' := row 78 (fun _ => 0)) rfl rfl rfl rfl (Arr_at _ _ (row 78 (fun _ => 0)) _ (by simp)) (by simp only [row_len]) (by rw [row_len]; kernel_rfl) (row_one _ _) ?_)
 intro w10 B5_10 o10
 have K10 : Kept b w w10 := Kept.off (K9.al _) o10 (by omega)
 have BF_10 := (BF_9.alloc _).off o10 (zL y6_BF)
 have B0_10 := (B0_9.alloc _).off o10 (zL y6_B0)
 have B1_10 := (B1_9.alloc _).off o10 (zL y6_B1)
 have B2_10 := (B2_9.alloc _).off o10 (zL y6_B2)
 have B3_10 := (B3_9.alloc _).off o10 (zL y6_B3)
 have B4_10 := (B4_9.alloc _).off o10 (zL y6_B4)
 have z10_B5 := B5_10.lies
 have z10_BF := BF_10.lies
 have z10_B0 := B0_10.lies
 have z10_B1 := B1_10.lies
 have z10_B2 := B2_10.lies
 have z10_B3 := B3_10.lies
 have z10_B4 := B4_10.lies
 clear K9 BF_9 B0_9 B1_9 B2_9 B3_9 B4_9 o10
 go_wp2_with fail
 obtain ⟨J12, hJ12⟩ : ∃ J : Nat → Act → World → Prop, Hid (J = fun k a Wl12 => ∀ G_ : Prop, (∀ (s12 : (Nat → Int) × Bool) (A12 C12 D12 F12 G12 L12 M12 N12 O12 P12 Q12 R12 S12 T12 U12 Y12 Z12 : Nat → Value), Hid (fMeetS_l12 g sky r2 r5 r8 ((fun _ => 0), r8.2) k = s12) → a = { tmps := #[.pointer (some ⟨b, 0, none⟩), A12 1, A12 2, A12 3, A12 4, .pointer (some ⟨w.heap.size, 0, none⟩), .pointer (some ⟨w.heap.size + 1, 0, none⟩), .pointer (some ⟨w.heap.size + 1 + 1, 0, none⟩), .pointer (some ⟨w.heap.size + 1 + 1 + 1, 0, none⟩), A12 9, A12 10, A12 11, .pointer (some ⟨w8.heap.size, 0, none⟩), .pointer (some ⟨w9.heap.size, 0, none⟩), .int .i64 (k : Int), A12 15, A12 16, A12 17, A12 18, A12 19, C12 0, C12 1, C12 2, C12 3, C12 4, C12 5, C12 6, C12 7, C12 8, C12 9, C12 10, C12 11, C12 12, C12 13, C12 14, C12 15, C12 16, C12 17, C12 18, C12 19, D12 0, D12 1, D12 2, D12 3, D12 4, D12 5, D12 6, D12 7, D12 8, D12 9, D12 10, D12 11, D12 12, D12 13, D12 14, D12 15, D12 16, D12 17, D12 18, D12 19, F12 0, F12 1, F12 2, F12 3, F12 4, F12 5, F12 6, F12 7, F12 8, F12 9, F12 10, F12 11, F12 12, F12 13, F12 14, F12 15, F12 16, F12 17, F12 18, F12 19, G12 0, G12 1, G12 2, G12 3, G12 4, G12 5, G12 6, G12 7, G12 8, G12 9, G12 10, G12 11, G12 12, G12 13, G12 14, G12 15, G12 16, G12 17, G12 18, G12 19, L12 0, L12 1, L12 2, L12 3, L12 4, L12 5, L12 6, L12 7, L12 8, L12 9, L12 10, L12 11, L12 12, L12 13, L12 14, L12 15, L12 16, L12 17, L12 18, L12 19, M12 0, M12 1, M12 2, M12 3, M12 4, M12 5, M12 6, M12 7, M12 8, M12 9, M12 10, M12 11, M12 12, M12 13, M12 14, M12 15, M12 16, M12 17, M12 18, M12 19, N12 0, N12 1, N12 2, N12 3, N12 4, N12 5, N12 6, N12 7, N12 8, N12 9, N12 10, N12 11, N12 12, N12 13, N12 14, N12 15, N12 16, N12 17, N12 18, N12 19, O12 0, O12 1, O12 2, O12 3, O12 4, O12 5, O12 6, O12 7, O12 8, O12 9, O12 10, O12 11, O12 12, O12 13, O12 14, O12 15, O12 16, O12 17, O12 18, O12 19, P12 0, P12 1, P12 2, P12 3, P12 4, P12 5, P12 6, P12 7, P12 8, P12 9, P12 10, P12 11, P12 12, P12 13, P12 14, P12 15, P12 16, P12 17, P12 18, P12 19, Q12 0, Q12 1, Q12 2, Q12 3, Q12 4, Q12 5, Q12 6, Q12 7, Q12 8, Q12 9, Q12 10, Q12 11, Q12 12, Q12 13, Q12 14, Q12 15, Q12 16, Q12 17, Q12 18, Q12 19, R12 0, R12 1, R12 2, R12 3, R12 4, R12 5, R12 6, R12 7, R12 8, R12 9, R12 10, R12 11, R12 12, R12 13, R12 14, R12 15, R12 16, R12 17, R12 18, R12 19, S12 0, S12 1, S12 2, S12 3, S12 4, S12 5, S12 6, S12 7, S12 8, S12 9, S12 10, S12 11, S12 12, S12 13, S12 14, S12 15, S12 16, S12 17, S12 18, S12 19, T12 0, T12 1, T12 2, T12 3, T12 4, T12 5, T12 6, T12 7, T12 8, T12 9, T12 10, T12 11, T12 12, T12 13, T12 14, T12 15, T12 16, T12 17, T12 18, T12 19, U12 0, U12 1, U12 2, U12 3, U12 4, U12 5, U12 6, U12 7, U12 8, U12 9, U12 10, U12 11, U12 12, U12 13, U12 14, U12 15, U12 16, U12 17, U12 18, U12 19, Y12 0, Y12 1, Y12 2, Y12 3, Y12 4, Y12 5, Y12 6, Y12 7, Y12 8, Y12 9, Y12 10, Y12 11, Y12 12, Y12 13, Y12 14, Y12 15, Y12 16, Y12 17, Y12 18, Y12 19, Z12 0, Z12 1], defers := [] } → Kept b w Wl12 → Fl b s12.2 Wl12 → Arr w.heap.size (row 43 g) Wl12 → Arr (w.heap.size + 1) (row 6 (updF (updF (updF (updF (updF (updF sky 0 r2.1.1) 1 r2.1.2.1) 2 r2.1.2.2) 3 r5.1.1) 4 r5.1.2.1) 5 r5.1.2.2)) Wl12 → Arr (w.heap.size + 1 + 1) (row 6 (updF (updF (updF (updF (updF (updF body 0 r3.1.1) 1 r3.1.2.1) 2 r3.1.2.2) 3 r6.1.1) 4 r6.1.2.1) 5 r6.1.2.2)) Wl12 → Arr (w.heap.size + 1 + 1 + 1) (row 43 (fun _ => 0)) Wl12 → Arr w8.heap.size (row 78 r8.1) Wl12 → Arr w9.heap.size (row 78 s12.1) Wl12 → G_) → G_) := ⟨_, rfl⟩
 refine rounds_up J12 13 ?_ ?_ ?_
 ·refine give_act (fun a_ ea_ => ?_)
  rw [hJ12.out]
  intro G_ hG_
  exact hG_ ((fun _ => 0), r8.2) (zS a_ 0) (zS a_ 20) (zS a_ 40) (zS a_ 60) (zS a_ 80) (zS a_ 100) (zS a_ 120) (zS a_ 140) (zS a_ 160) (zS a_ 180) (zS a_ 200) (zS a_ 220) (zS a_ 240) (zS a_ 260) (zS a_ 280) (zS a_ 300) (zS a_ 320) rfl (by subst ea_; rfl) K10 BF_10 B0_10 B1_10 B2_10 B3_10 B4_10 B5_10
 ·intro k a Wl12 hk hI R hR
  rw [hJ12.out] at hI
  refine hI _ ?_
  clear hI
  intro s12 A12 C12 D12 F12 G12 L12 M12 N12 O12 P12 Q12 R12 S12 T12 U12 Y12 Z12 El12 ea Kl12 BF_l12 B0_l12 B1_l12 B2_l12 B3_l12 B4_l12 B5_l12
  subst ea
  have zl12_BF := BF_l12.lies
  have zl12_B0 := B0_l12.lies
  have zl12_B1 := B1_l12.lies
  have zl12_B2 := B2_l12.lies
  have zl12_B3 := B3_l12.lies
  have zl12_B4 := B4_l12.lies
  have zl12_B5 := B5_l12.lies
  go_wp2_with fail
  refine get_cont (fun KK3 hKK3 => ?_)
  have cont3 : ∀ (W3 : World) (l4 l41 l42 l43 l44 l45 l46 l47 l48 l49 l50 l51 l52 l53 l54 l55 l56 l57 l58 l59 l60 l61 l62 l63 l64 l65 l66 l67 l68 l69 l70 l71 l72 l73 l74 l75 l76 l77 l78 l79 l80 l81 l82 l83 l84 l85 l86 l87 l88 l89 l90 l91 l92 l93 l94 l95 l96 l97 l98 l99 l100 l101 l102 l103 l104 l105 l106 l107 l108 l109 l110 l111 l112 l113 l114 l115 l116 l117 l118 l119 l120 l121 l122 l123 l124 l125 l126 l127 l128 l129 l130 l131 l132 l133 l134 l135 l136 l137 l138 l139 l140 l141 l142 l143 l144 l145 l146 l147 l148 l149 l150 l151 l152 l153 l154 l155 l156 l157 l158 l159 l160 l161 l162 l163 l164 l165 l166 l167 l168 l169 l170 l171 l172 l173 l174 l175 l176 l177 l178 l179 l180 l181 l182 l183 l184 l185 l186 l187 l188 l189 l190 l191 l192 l193 l194 l195 l196 l197 l198 l199 l200 l201 l202 l203 l204 l205 l206 l207 l208 l209 l210 l211 l212 l213 l214 l215 l216 l217 l218 l219 l220 l221 l222 l223 l224 l225 l226 l227 l228 l229 l230 l231 l232 l233 l234 l235 l236 l237 l238 l239 l240 l241 l242 l243 l244 l245 l246 l247 l248 l249 l250 l251 l252 l253 l254 l255 l256 l257 l258 l259 l260 l261 l262 l263 l264 l265 l266 l267 l268 l269 l270 l271 l272 l273 l274 l275 l276 l277 l278 l279 l280 l281 l282 l283 l284 l285 l286 l287 l288 l289 l290 l291 l292 l293 l294 l295 l296 l297 l298 l299 l300 l301 l302 l303 l304 l305 l306 l307 l308 l309 l310 l311 l312 l313 l314 l315 l316 l317 l318 l319 l320 l321 : Value) (x3_0 : Nat) (r11 : _) , Hid (fattitudeS s12.2 g (fun x_ => r8.1 (k * 6 + x_)) = r11) → Kept b w W3 → Fl b r11.2 W3 → Arr w.heap.size (row 43 g) W3 → Arr (w.heap.size + 1) (row 6 (updF (updF (updF (updF (updF (updF sky 0 r2.1.1) 1 r2.1.2.1) 2 r2.1.2.2) 3 r5.1.1) 4 r5.1.2.1) 5 r5.1.2.2)) W3 → Arr (w.heap.size + 1 + 1) (row 6 (updF (updF (updF (updF (updF (updF body 0 r3.1.1) 1 r3.1.2.1) 2 r3.1.2.2) 3 r6.1.1) 4 r6.1.2.1) 5 r6.1.2.2)) W3 → Arr (w.heap.size + 1 + 1 + 1) (row 43 (fun _ => 0)) W3 → Arr w8.heap.size (row 78 r8.1) W3 → Arr w9.heap.size (row 78 s12.1) W3 → Arr x3_0 [.int .i64 r11.1.1, .int .i64 r11.1.2.1, .int .i64 r11.1.2.2.1, .int .i64 r11.1.2.2.2] W3 → w.heap.size ≤ x3_0 → b < x3_0 → w.heap.size < x3_0 → w.heap.size + 1 < x3_0 → w.heap.size + 1 + 1 < x3_0 → w.heap.size + 1 + 1 + 1 < x3_0 → w8.heap.size < x3_0 → w9.heap.size < x3_0 → KK3 { tmps := #[.pointer (some ⟨b, 0, none⟩), A12 1, A12 2, A12 3, l4, .pointer (some ⟨w.heap.size, 0, none⟩), .pointer (some ⟨w.heap.size + 1, 0, none⟩), .pointer (some ⟨w.heap.size + 1 + 1, 0, none⟩), .pointer (some ⟨w.heap.size + 1 + 1 + 1, 0, none⟩), A12 9, A12 10, A12 11, .pointer (some ⟨w8.heap.size, 0, none⟩), .pointer (some ⟨w9.heap.size, 0, none⟩), .int .i64 (k : Int), .pointer (some ⟨x3_0, 0, none⟩), A12 16, A12 17, A12 18, A12 19, C12 0, C12 1, C12 2, C12 3, C12 4, C12 5, C12 6, C12 7, C12 8, C12 9, C12 10, C12 11, C12 12, C12 13, C12 14, C12 15, C12 16, C12 17, C12 18, C12 19, D12 0, l41, l42, l43, l44, l45, l46, l47, l48, l49, l50, l51, l52, l53, l54, l55, l56, l57, l58, l59, l60, l61, l62, l63, l64, l65, l66, l67, l68, l69, l70, l71, l72, l73, l74, l75, l76, l77, l78, l79, l80, l81, l82, l83, l84, l85, l86, l87, l88, l89, l90, l91, l92, l93, l94, l95, l96, l97, l98, l99, l100, l101, l102, l103, l104, l105, l106, l107, l108, l109, l110, l111, l112, l113, l114, l115, l116, l117, l118, l119, l120, l121, l122, l123, l124, l125, l126, l127, l128, l129, l130, l131, l132, l133, l134, l135, l136, l137, l138, l139, l140, l141, l142, l143, l144, l145, l146, l147, l148, l149, l150, l151, l152, l153, l154, l155, l156, l157, l158, l159, l160, l161, l162, l163, l164, l165, l166, l167, l168, l169, l170, l171, l172, l173, l174, l175, l176, l177, l178, l179, l180, l181, l182, l183, l184, l185, l186, l187, l188, l189, l190, l191, l192, l193, l194, l195, l196, l197, l198, l199, l200, l201, l202, l203, l204, l205, l206, l207, l208, l209, l210, l211, l212, l213, l214, l215, l216, l217, l218, l219, l220, l221, l222, l223, l224, l225, l226, l227, l228, l229, l230, l231, l232, l233, l234, l235, l236, l237, l238, l239, l240, l241, l242, l243, l244, l245, l246, l247, l248, l249, l250, l251, l252, l253, l254, l255, l256, l257, l258, l259, l260, l261, l262, l263, l264, l265, l266, l267, l268, l269, l270, l271, l272, l273, l274, l275, l276, l277, l278, l279, l280, l281, l282, l283, l284, l285, l286, l287, l288, l289, l290, l291, l292, l293, l294, l295, l296, l297, l298, l299, l300, l301, l302, l303, l304, l305, l306, l307, l308, l309, l310, l311, l312, l313, l314, l315, l316, l317, l318, l319, l320, l321], defers := [] } W3 := by
   intro W3 l4 l41 l42 l43 l44 l45 l46 l47 l48 l49 l50 l51 l52 l53 l54 l55 l56 l57 l58 l59 l60 l61 l62 l63 l64 l65 l66 l67 l68 l69 l70 l71 l72 l73 l74 l75 l76 l77 l78 l79 l80 l81 l82 l83 l84 l85 l86 l87 l88 l89 l90 l91 l92 l93 l94 l95 l96 l97 l98 l99 l100 l101 l102 l103 l104 l105 l106 l107 l108 l109 l110 l111 l112 l113 l114 l115 l116 l117 l118 l119 l120 l121 l122 l123 l124 l125 l126 l127 l128 l129 l130 l131 l132 l133 l134 l135 l136 l137 l138 l139 l140 l141 l142 l143 l144 l145 l146 l147 l148 l149 l150 l151 l152 l153 l154 l155 l156 l157 l158 l159 l160 l161 l162 l163 l164 l165 l166 l167 l168 l169 l170 l171 l172 l173 l174 l175 l176 l177 l178 l179 l180 l181 l182 l183 l184 l185 l186 l187 l188 l189 l190 l191 l192 l193 l194 l195 l196 l197 l198 l199 l200 l201 l202 l203 l204 l205 l206 l207 l208 l209 l210 l211 l212 l213 l214 l215 l216 l217 l218 l219 l220 l221 l222 l223 l224 l225 l226 l227 l228 l229 l230 l231 l232 l233 l234 l235 l236 l237 l238 l239 l240 l241 l242 l243 l244 l245 l246 l247 l248 l249 l250 l251 l252 l253 l254 l255 l256 l257 l258 l259 l260 l261 l262 l263 l264 l265 l266 l267 l268 l269 l270 l271 l272 l273 l274 l275 l276 l277 l278 l279 l280 l281 l282 l283 l284 l285 l286 l287 l288 l289 l290 l291 l292 l293 l294 l295 l296 l297 l298 l299 l300 l301 l302 l303 l304 l305 l306 l307 l308 l309 l310 l311 l312 l313 l314 l315 l316 l317 l318 l319 l320 l321 x3_0 r11 E11 KC3 BF_c3 B0_c3 B1_c3 B2_c3 B3_c3 B4_c3 B5_c3 B6_c3 s3_0 s3_1 s3_2 s3_3 s3_4 s3_5 s3_6 s3_7
   have zc3_BF := BF_c3.lies
   have zc3_B0 := B0_c3.lies
   have zc3_B1 := B1_c3.lies
   have zc3_B2 := B2_c3.lies
   have zc3_B3 := B3_c3.lies
   have zc3_B4 := B4_c3.lies
   have zc3_B5 := B5_c3.lies
   have zc3_B6 := B6_c3.lies
   rw [hKK3.out]
   dsimp only [Exit.inBlock, Exit.then]
   first | refine use_cont (by assumption) ?_ | skip
   have i13_0 : (k : Int) < 13 := by omega
   go_wp2_with fail
   clear i13_0
   refine wp_region_held_drew (S := fun w' => Arr x3_0 [.int .i64 r11.1.1, .int .i64 r11.1.2.1, .int .i64 r11.1.2.2.1, .int .i64 r11.1.2.2.2] w' ∧ Arr (w.heap.size + 1) (row 6 (updF (updF (updF (updF (updF (updF sky 0 r2.1.1) 1 r2.1.2.1) 2 r2.1.2.2) 3 r5.1.1) 4 r5.1.2.1) 5 r5.1.2.2)) w') (by kernel_rfl) ⟨B6_c3.drew, B1_c3.drew⟩ (fun zH => ?_)
   refine zT 0 rfl (by kernel_rfl) (fun _ _ _ => id) rfl (fun _ _ => by go_simp <;> with_reducible rfl) zH ?_
   simp only [Act.put, zA, zB, zC]
   refine zT 1 rfl (by kernel_rfl) (fun _ _ _ => id) rfl (fun _ _ => by go_simp <;> with_reducible rfl) zH ?_
   simp only [Act.put, zA, zB, zC]
   refine zT 2 rfl (by kernel_rfl) (fun _ _ _ => id) rfl (fun wx hS => by have hc0 : wx.cell? ⟨x3_0, 0, none⟩ = some (.int .i64 r11.1.1) := hS.1.c 0 (zD rfl); have hc1 : wx.cell? ⟨x3_0, 1, none⟩ = some (.int .i64 r11.1.2.1) := hS.1.c 1 (zD rfl); have hc2 : wx.cell? ⟨x3_0, 2, none⟩ = some (.int .i64 r11.1.2.2.1) := hS.1.c 2 (zD rfl); have hc3 : wx.cell? ⟨x3_0, 3, none⟩ = some (.int .i64 r11.1.2.2.2) := hS.1.c 3 (zD rfl); go_simp <;> with_reducible rfl) zH ?_
   simp only [Act.put, zA, zB, zC]
   refine zT 3 rfl (by kernel_rfl) (fun _ _ _ => id) rfl (fun _ _ => by go_simp <;> with_reducible rfl) zH ?_
   simp only [Act.put, zA, zB, zC]
   refine zT 4 rfl (by kernel_rfl) (fun _ _ _ => id) rfl (fun wx hS => by have hc0 : wx.cell? ⟨w.heap.size + 1, 0, none⟩ = some (.int .i64 ((updF (updF (updF (updF (updF (updF sky 0 r2.1.1) 1 r2.1.2.1) 2 r2.1.2.2) 3 r5.1.1) 4 r5.1.2.1) 5 r5.1.2.2) 0)) := row_c hS.2 0 (by omega); have hc1 : wx.cell? ⟨w.heap.size + 1, 1, none⟩ = some (.int .i64 ((updF (updF (updF (updF (updF (updF sky 0 r2.1.1) 1 r2.1.2.1) 2 r2.1.2.2) 3 r5.1.1) 4 r5.1.2.1) 5 r5.1.2.2) 1)) := row_c hS.2 1 (by omega); have hc2 : wx.cell? ⟨w.heap.size + 1, 2, none⟩ = some (.int .i64 ((updF (updF (updF (updF (updF (updF sky 0 r2.1.1) 1 r2.1.2.1) 2 r2.1.2.2) 3 r5.1.1) 4 r5.1.2.1) 5 r5.1.2.2) 2)) := row_c hS.2 2 (by omega); go_simp <;> with_reducible rfl) zH ?_
   simp only [Act.put, zA, zB, zC]
   refine zT 6 rfl (by kernel_rfl) (fun _ _ _ => id) rfl (fun _ _ => by go_simp <;> with_reducible rfl) zH ?_
   simp only [Act.put, zA, zB, zC]
   refine zT 7 rfl (by kernel_rfl) (fun _ _ _ => id) rfl (fun wx hS => by have hc0 : wx.cell? ⟨x3_0, 0, none⟩ = some (.int .i64 r11.1.1) := hS.1.c 0 (zD rfl); have hc1 : wx.cell? ⟨x3_0, 1, none⟩ = some (.int .i64 r11.1.2.1) := hS.1.c 1 (zD rfl); have hc2 : wx.cell? ⟨x3_0, 2, none⟩ = some (.int .i64 r11.1.2.2.1) := hS.1.c 2 (zD rfl); have hc3 : wx.cell? ⟨x3_0, 3, none⟩ = some (.int .i64 r11.1.2.2.2) := hS.1.c 3 (zD rfl); go_simp <;> with_reducible rfl) zH ?_
   simp only [Act.put, zA, zB, zC]
   refine zT 8 rfl (by kernel_rfl) (fun _ _ _ => id) rfl (fun _ _ => by go_simp <;> with_reducible rfl) zH ?_
   simp only [Act.put, zA, zB, zC]
   refine zT 9 rfl (by kernel_rfl) (fun _ _ _ => id) rfl (fun wx hS => by have hc0 : wx.cell? ⟨w.heap.size + 1, 3, none⟩ = some (.int .i64 ((updF (updF (updF (updF (updF (updF sky 0 r2.1.1) 1 r2.1.2.1) 2 r2.1.2.2) 3 r5.1.1) 4 r5.1.2.1) 5 r5.1.2.2) 3)) := row_c hS.2 3 (by omega); have hc1 : wx.cell? ⟨w.heap.size + 1, 4, none⟩ = some (.int .i64 ((updF (updF (updF (updF (updF (updF sky 0 r2.1.1) 1 r2.1.2.1) 2 r2.1.2.2) 3 r5.1.1) 4 r5.1.2.1) 5 r5.1.2.2) 4)) := row_c hS.2 4 (by omega); have hc2 : wx.cell? ⟨w.heap.size + 1, 5, none⟩ = some (.int .i64 ((updF (updF (updF (updF (updF (updF sky 0 r2.1.1) 1 r2.1.2.1) 2 r2.1.2.2) 3 r5.1.1) 4 r5.1.2.1) 5 r5.1.2.2) 5)) := row_c hS.2 5 (by omega); go_simp <;> with_reducible rfl) zH ?_
   simp only [Act.put, zA, zB, zC]
   refine zK 5 (by kernel_rfl) rfl (fun K hK => ?_)
   go_simp
   refine (yTurn_any b r11.2 r11.1 (((updF (updF (updF (updF (updF (updF sky 0 r2.1.1) 1 r2.1.2.1) 2 r2.1.2.2) 3 r5.1.1) 4 r5.1.2.1) 5 r5.1.2.2) 0), ((updF (updF (updF (updF (updF (updF sky 0 r2.1.1) 1 r2.1.2.1) 2 r2.1.2.2) 3 r5.1.1) 4 r5.1.2.1) 5 r5.1.2.2) 1), ((updF (updF (updF (updF (updF (updF sky 0 r2.1.1) 1 r2.1.2.1) 2 r2.1.2.2) 3 r5.1.1) 4 r5.1.2.1) 5 r5.1.2.2) 2)) _ BF_c3.drew).mono ?_
   rintro e w12 ⟨rfl, f12, k12⟩
   generalize e12 : qTurnS r11.2 r11.1 (((updF (updF (updF (updF (updF (updF sky 0 r2.1.1) 1 r2.1.2.1) 2 r2.1.2.2) 3 r5.1.1) 4 r5.1.2.1) 5 r5.1.2.2) 0), ((updF (updF (updF (updF (updF (updF sky 0 r2.1.1) 1 r2.1.2.1) 2 r2.1.2.2) 3 r5.1.1) 4 r5.1.2.1) 5 r5.1.2.2) 1), ((updF (updF (updF (updF (updF (updF sky 0 r2.1.1) 1 r2.1.2.1) 2 r2.1.2.2) 3 r5.1.1) 4 r5.1.2.1) 5 r5.1.2.2) 2)) = r12 at f12 ⊢
   have E12 : Hid _ := e12
   clear e12
   have K12 : Kept b w w12 := Kept.trans KC3.drew k12
   have B0_12 := B0_c3.drew.kept k12 (zG y1_BF)
   have B1_12 := B1_c3.drew.kept k12 (zG y2_BF)
   have B2_12 := B2_c3.drew.kept k12 (zG y3_BF)
   have B3_12 := B3_c3.drew.kept k12 (zG y4_BF)
   have B4_12 := B4_c3.drew.kept k12 (zG y5_BF)
   have B5_12 := B5_c3.drew.kept k12 (zG y6_BF)
   have B6_12 := B6_c3.drew.kept k12 (zG s3_1)
   have z12 := B6_12.lies
   clear zH
   refine hK.out _ _ ⟨B6_12, B1_12⟩ (fun zH => ?_)
   clear hK K BF_c3 B0_c3 B1_c3 B2_c3 B3_c3 B4_c3 B5_c3 B6_c3 k12
   refine zK 10 (by kernel_rfl) rfl (fun K hK => ?_)
   go_simp
   refine (yTurn_any b r12.2 r11.1 (((updF (updF (updF (updF (updF (updF sky 0 r2.1.1) 1 r2.1.2.1) 2 r2.1.2.2) 3 r5.1.1) 4 r5.1.2.1) 5 r5.1.2.2) 3), ((updF (updF (updF (updF (updF (updF sky 0 r2.1.1) 1 r2.1.2.1) 2 r2.1.2.2) 3 r5.1.1) 4 r5.1.2.1) 5 r5.1.2.2) 4), ((updF (updF (updF (updF (updF (updF sky 0 r2.1.1) 1 r2.1.2.1) 2 r2.1.2.2) 3 r5.1.1) 4 r5.1.2.1) 5 r5.1.2.2) 5)) _ f12).mono ?_
   rintro e w13 ⟨rfl, f13, k13⟩
   generalize e13 : qTurnS r12.2 r11.1 (((updF (updF (updF (updF (updF (updF sky 0 r2.1.1) 1 r2.1.2.1) 2 r2.1.2.2) 3 r5.1.1) 4 r5.1.2.1) 5 r5.1.2.2) 3), ((updF (updF (updF (updF (updF (updF sky 0 r2.1.1) 1 r2.1.2.1) 2 r2.1.2.2) 3 r5.1.1) 4 r5.1.2.1) 5 r5.1.2.2) 4), ((updF (updF (updF (updF (updF (updF sky 0 r2.1.1) 1 r2.1.2.1) 2 r2.1.2.2) 3 r5.1.1) 4 r5.1.2.1) 5 r5.1.2.2) 5)) = r13 at f13 ⊢
   have E13 : Hid _ := e13
   clear e13
   have K13 := Kept.trans K12 k13
   have B0_13 := B0_12.kept k13 (zG y1_BF)
   have B1_13 := B1_12.kept k13 (zG y2_BF)
   have B2_13 := B2_12.kept k13 (zG y3_BF)
   have B3_13 := B3_12.kept k13 (zG y4_BF)
   have B4_13 := B4_12.kept k13 (zG y5_BF)
   have B5_13 := B5_12.kept k13 (zG y6_BF)
   have B6_13 := B6_12.kept k13 (zG s3_1)
   have z13 := B6_13.lies
   clear zH
   refine hK.out _ _ ⟨B6_13, B1_13⟩ (fun zH => ?_)
   clear hK K K12 f12 B0_12 B1_12 B2_12 B3_12 B4_12 B5_12 B6_12 k13
   refine zK 11 (by kernel_rfl) rfl (fun K hK => ?_)
   go_simp
   refine (fpair_any r12.1 r13.1 _).mono ?_
   rintro e w14 ⟨rfl, k14⟩
   generalize e14 : fpairP r12.1 r13.1 = r14
   have E14 : Hid _ := e14
   clear e14
   have K14 : Kept b w w14 := Kept.trans K13 (Kept.of_below k14)
   have BF_14 := f13.below k14
   have B0_14 := B0_13.below k14
   have B1_14 := B1_13.below k14
   have B2_14 := B2_13.below k14
   have B3_14 := B3_13.below k14
   have B4_14 := B4_13.below k14
   have B5_14 := B5_13.below k14
   have B6_14 := B6_13.below k14
   have z14 := B6_14.lies
   clear zH
   refine hK.out _ _ ⟨B6_14, B1_14⟩ (fun zH => ?_)
   clear hK K K13 f13 B0_13 B1_13 B2_13 B3_13 B4_13 B5_13 B6_13 k14
   refine zT 12 rfl (by kernel_rfl) (fun _ _ _ => id) rfl (fun _ _ => by have hi0 : (k : Int) < 13 := (by omega); go_simp <;> with_reducible rfl) zH ?_
   simp only [Act.put, zA, zB, zC]
   refine zK 13 (by kernel_rfl) rfl (fun K hK => ?_)
   have c14_B5_0 : w14.cell? ⟨w9.heap.size, k * 6 + 1, none⟩ = some (.int .i64 (s12.1 (k * 6 + 1))) := row_c B5_14 (k * 6 + 1) (by omega)
   have c14_B5_1 : w14.cell? ⟨w9.heap.size, k * 6 + 2, none⟩ = some (.int .i64 (s12.1 (k * 6 + 2))) := row_c B5_14 (k * 6 + 2) (by omega)
   have c14_B5_2 : w14.cell? ⟨w9.heap.size, k * 6 + 3, none⟩ = some (.int .i64 (s12.1 (k * 6 + 3))) := row_c B5_14 (k * 6 + 3) (by omega)
   have c14_B5_3 : w14.cell? ⟨w9.heap.size, k * 6 + 4, none⟩ = some (.int .i64 (s12.1 (k * 6 + 4))) := row_c B5_14 (k * 6 + 4) (by omega)
   have c14_B5_4 : w14.cell? ⟨w9.heap.size, k * 6 + 5, none⟩ = some (.int .i64 (s12.1 (k * 6 + 5))) := row_c B5_14 (k * 6 + 5) (by omega)
   have c14_B5_5 : w14.cell? ⟨w9.heap.size, k * 6, none⟩ = some (.int .i64 (s12.1 (k * 6))) := row_c B5_14 (k * 6) (by omega)
   have g14_B5_6 := row_f B5_14 (k * 6 + 1) (by omega)
   have g14_B5_7 := row_f B5_14 (k * 6 + 2) (by omega)
   have g14_B5_8 := row_f B5_14 (k * 6 + 3) (by omega)
   have g14_B5_9 := row_f B5_14 (k * 6 + 4) (by omega)
   have g14_B5_10 := row_f B5_14 (k * 6 + 5) (by omega)
   have g14_B5_11 := row_f B5_14 (k * 6) (by omega)
   go_simp
   clear zH
   refine hK.out _ _ ⟨((((((B6_14.new w9.heap.size (k * 6) (zG s3_7) (.int .i64 r14.1)).new w9.heap.size (k * 6 + 1) (zG s3_7) (.int .i64 r14.2.1)).new w9.heap.size (k * 6 + 2) (zG s3_7) (.int .i64 r14.2.2.1)).new w9.heap.size (k * 6 + 3) (zG s3_7) (.int .i64 r14.2.2.2.1)).new w9.heap.size (k * 6 + 4) (zG s3_7) (.int .i64 r14.2.2.2.2.1)).new w9.heap.size (k * 6 + 5) (zG s3_7) (.int .i64 r14.2.2.2.2.2)), ((((((B1_14.new w9.heap.size (k * 6) (zL y6_B1) (.int .i64 r14.1)).new w9.heap.size (k * 6 + 1) (zL y6_B1) (.int .i64 r14.2.1)).new w9.heap.size (k * 6 + 2) (zL y6_B1) (.int .i64 r14.2.2.1)).new w9.heap.size (k * 6 + 3) (zL y6_B1) (.int .i64 r14.2.2.2.1)).new w9.heap.size (k * 6 + 4) (zL y6_B1) (.int .i64 r14.2.2.2.2.1)).new w9.heap.size (k * 6 + 5) (zL y6_B1) (.int .i64 r14.2.2.2.2.2))⟩ (fun zH => ?_)
   clear hK K c14_B5_0 c14_B5_1 c14_B5_2 c14_B5_3 c14_B5_4 c14_B5_5 g14_B5_6 g14_B5_7 g14_B5_8 g14_B5_9 g14_B5_10 g14_B5_11
   refine wpAnyH_done (by kernel_rfl) ?_ _
   clear zH
   go_wp2_with fail
   have hs12 : Hid (fMeetS_l12 g sky r2 r5 r8 ((fun _ => 0), r8.2) (k + 1) = ((updF (updF (updF (updF (updF (updF s12.1 (k * 6) r14.1) (k * 6 + 1) r14.2.1) (k * 6 + 2) r14.2.2.1) (k * 6 + 3) r14.2.2.2.1) (k * 6 + 4) r14.2.2.2.2.1) (k * 6 + 5) r14.2.2.2.2.2), r13.2)) := by show _ = _; rw [fMeetS_l12_succ]; unfold fMeetS_l12s; simp only [El12.out, E11.out, E12.out, E13.out, E14.out]
   refine give_act (fun a_ ea_ => ?_)
   rw [hJ12.out]
   intro G_ hG_
   exact hG_ ((updF (updF (updF (updF (updF (updF s12.1 (k * 6) r14.1) (k * 6 + 1) r14.2.1) (k * 6 + 2) r14.2.2.1) (k * 6 + 3) r14.2.2.2.1) (k * 6 + 4) r14.2.2.2.2.1) (k * 6 + 5) r14.2.2.2.2.2), r13.2) (zS a_ 0) (zS a_ 20) (zS a_ 40) (zS a_ 60) (zS a_ 80) (zS a_ 100) (zS a_ 120) (zS a_ 140) (zS a_ 160) (zS a_ 180) (zS a_ 200) (zS a_ 220) (zS a_ 240) (zS a_ 260) (zS a_ 280) (zS a_ 300) (zS a_ 320) hs12 (by subst ea_; rfl) ((((((K14.new _ _ (by omega) _).new _ _ (by omega) _).new _ _ (by omega) _).new _ _ (by omega) _).new _ _ (by omega) _).new _ _ (by omega) _) ((((((BF_14.new w9.heap.size (k * 6) (zL y6_BF) (.int .i64 r14.1)).new w9.heap.size (k * 6 + 1) (zL y6_BF) (.int .i64 r14.2.1)).new w9.heap.size (k * 6 + 2) (zL y6_BF) (.int .i64 r14.2.2.1)).new w9.heap.size (k * 6 + 3) (zL y6_BF) (.int .i64 r14.2.2.2.1)).new w9.heap.size (k * 6 + 4) (zL y6_BF) (.int .i64 r14.2.2.2.2.1)).new w9.heap.size (k * 6 + 5) (zL y6_BF) (.int .i64 r14.2.2.2.2.2)) ((((((B0_14.new w9.heap.size (k * 6) (zL y6_B0) (.int .i64 r14.1)).new w9.heap.size (k * 6 + 1) (zL y6_B0) (.int .i64 r14.2.1)).new w9.heap.size (k * 6 + 2) (zL y6_B0) (.int .i64 r14.2.2.1)).new w9.heap.size (k * 6 + 3) (zL y6_B0) (.int .i64 r14.2.2.2.1)).new w9.heap.size (k * 6 + 4) (zL y6_B0) (.int .i64 r14.2.2.2.2.1)).new w9.heap.size (k * 6 + 5) (zL y6_B0) (.int .i64 r14.2.2.2.2.2)) ((((((B1_14.new w9.heap.size (k * 6) (zL y6_B1) (.int .i64 r14.1)).new w9.heap.size (k * 6 + 1) (zL y6_B1) (.int .i64 r14.2.1)).new w9.heap.size (k * 6 + 2) (zL y6_B1) (.int .i64 r14.2.2.1)).new w9.heap.size (k * 6 + 3) (zL y6_B1) (.int .i64 r14.2.2.2.1)).new w9.heap.size (k * 6 + 4) (zL y6_B1) (.int .i64 r14.2.2.2.2.1)).new w9.heap.size (k * 6 + 5) (zL y6_B1) (.int .i64 r14.2.2.2.2.2)) ((((((B2_14.new w9.heap.size (k * 6) (zL y6_B2) (.int .i64 r14.1)).new w9.heap.size (k * 6 + 1) (zL y6_B2) (.int .i64 r14.2.1)).new w9.heap.size (k * 6 + 2) (zL y6_B2) (.int .i64 r14.2.2.1)).new w9.heap.size (k * 6 + 3) (zL y6_B2) (.int .i64 r14.2.2.2.1)).new w9.heap.size (k * 6 + 4) (zL y6_B2) (.int .i64 r14.2.2.2.2.1)).new w9.heap.size (k * 6 + 5) (zL y6_B2) (.int .i64 r14.2.2.2.2.2)) ((((((B3_14.new w9.heap.size (k * 6) (zL y6_B3) (.int .i64 r14.1)).new w9.heap.size (k * 6 + 1) (zL y6_B3) (.int .i64 r14.2.1)).new w9.heap.size (k * 6 + 2) (zL y6_B3) (.int .i64 r14.2.2.1)).new w9.heap.size (k * 6 + 3) (zL y6_B3) (.int .i64 r14.2.2.2.1)).new w9.heap.size (k * 6 + 4) (zL y6_B3) (.int .i64 r14.2.2.2.2.1)).new w9.heap.size (k * 6 + 5) (zL y6_B3) (.int .i64 r14.2.2.2.2.2)) ((((((B4_14.new w9.heap.size (k * 6) (zL y6_B4) (.int .i64 r14.1)).new w9.heap.size (k * 6 + 1) (zL y6_B4) (.int .i64 r14.2.1)).new w9.heap.size (k * 6 + 2) (zL y6_B4) (.int .i64 r14.2.2.1)).new w9.heap.size (k * 6 + 3) (zL y6_B4) (.int .i64 r14.2.2.2.1)).new w9.heap.size (k * 6 + 4) (zL y6_B4) (.int .i64 r14.2.2.2.2.1)).new w9.heap.size (k * 6 + 5) (zL y6_B4) (.int .i64 r14.2.2.2.2.2)) (row_put (row_put (row_put (row_put (row_put (row_put B5_14 (k * 6) (by omega) r14.1) (k * 6 + 1) (by omega) r14.2.1) (k * 6 + 2) (by omega) r14.2.2.1) (k * 6 + 3) (by omega) r14.2.2.2.1) (k * 6 + 4) (by omega) r14.2.2.2.2.1) (k * 6 + 5) (by omega) r14.2.2.2.2.2)
  refine wp_region_held_drew (S := fun w' => Arr w.heap.size (row 43 g) w' ∧ Arr w8.heap.size (row 78 r8.1) w') (by kernel_rfl) ⟨B0_l12.drew, B4_l12.drew⟩ (fun zH => ?_)
  refine zT 0 rfl (by kernel_rfl) (fun _ _ _ => id) rfl (fun _ _ => by go_simp <;> with_reducible rfl) zH ?_
  simp only [Act.put, zA, zB, zC]
  refine take_at (i := 1) rfl (by kernel_rfl) (by kernel_rfl) (by kernel_rfl) (fun _ _ _ h => h) (row_yield (by rfl) rfl rfl (fun _ hS => hS.1) (by kernel_rfl) (by rw [row_len]; kernel_rfl)) zH ?_
  simp only [Act.put, zA, zB, zC]
  refine zT 2 rfl (by kernel_rfl) (fun _ _ _ => id) rfl (fun _ _ => by go_simp <;> with_reducible rfl) zH ?_
  simp only [Act.put, zA, zB, zC]
  refine zT 3 rfl (by kernel_rfl) (fun _ _ _ => id) rfl (fun _ _ => by have hi0 : (k : Int) < 13 := (by omega); go_simp <;> with_reducible rfl) zH ?_
  simp only [Act.put, zA, zB, zC]
  refine take_at (i := 4) rfl (by kernel_rfl) (by kernel_rfl) (by kernel_rfl) (fun _ _ _ h => h) (part_yield (M := 6) (by rfl) rfl rfl (fun _ hS => hS.2) (by omega) (by kernel_rfl) (by rw [row_len]; kernel_rfl)) zH ?_
  simp only [Act.put, zA, zB, zC]
  refine call_at2 (i0 := 5) (i1 := 6) (by kernel_rfl) rfl rfl (fun K hK => ?_) (fun K hK => ?_)
  ·go_simp
   refine (fattitude_any b s12.2 g (fun x_ => r8.1 (k * 6 + x_)) _ BF_l12.drew).mono ?_
   rintro e w11 ⟨rfl, f11, k11⟩
   generalize e11 : fattitudeS s12.2 g (fun x_ => r8.1 (k * 6 + x_)) = r11 at f11 ⊢
   have E11 : Hid _ := e11
   clear e11
   have K11 : Kept b w w11 := Kept.trans Kl12.drew k11
   have B0_11 := B0_l12.drew.kept k11 (zG y1_BF)
   have B1_11 := B1_l12.drew.kept k11 (zG y2_BF)
   have B2_11 := B2_l12.drew.kept k11 (zG y3_BF)
   have B3_11 := B3_l12.drew.kept k11 (zG y4_BF)
   have B4_11 := B4_l12.drew.kept k11 (zG y5_BF)
   have B5_11 := B5_l12.drew.kept k11 (zG y6_BF)
   have z11 := B5_11.lies
   clear zH
   refine hK.out _ _ ⟨B0_11, B4_11⟩ (fun zH => ?_)
   clear hK K BF_l12 B0_l12 B1_l12 B2_l12 B3_l12 B4_l12 B5_l12 k11
   refine zK 6 (by kernel_rfl) rfl (fun K hK => ?_)
   have y11_BF := f11.lies
   have y11_B0 := B0_11.lies
   have y11_B1 := B1_11.lies
   have y11_B2 := B2_11.lies
   have y11_B3 := B3_11.lies
   have y11_B4 := B4_11.lies
   have y11_B5 := B5_11.lies
   go_simp
   clear zH
   refine hK.out _ _ ⟨(B0_11.alloc _), (B4_11.alloc _)⟩ (fun zH => ?_)
   clear hK K
   refine zK 7 (by kernel_rfl) rfl (fun K hK => ?_)
   go_simp
   clear zH
   refine hK.out _ _ ⟨(B0_11.alloc _), (B4_11.alloc _)⟩ (fun zH => ?_)
   clear hK K
   refine wpAnyH_done (by kernel_rfl) ?_ _
   clear zH
   refine put_cont hKK3 ?_
   exact cont3 _ _ _ _ _ _ _ _ _ _ _ _ _ _ _ _ _ _ _ _ _ _ _ _ _ _ _ _ _ _ _ _ _ _ _ _ _ _ _ _ _ _ _ _ _ _ _ _ _ _ _ _ _ _ _ _ _ _ _ _ _ _ _ _ _ _ _ _ _ _ _ _ _ _ _ _ _ _ _ _ _ _ _ _ _ _ _ _ _ _ _ _ _ _ _ _ _ _ _ _ _ _ _ _ _ _ _ _ _ _ _ _ _ _ _ _ _ _ _ _ _ _ _ _ _ _ _ _ _ _ _ _ _ _ _ _ _ _ _ _ _ _ _ _ _ _ _ _ _ _ _ _ _ _ _ _ _ _ _ _ _ _ _ _ _ _ _ _ _ _ _ _ _ _ _ _ _ _ _ _ _ _ _ _ _ _ _ _ _ _ _ _ _ _ _ _ _ _ _ _ _ _ _ _ _ _ _ _ _ _ _ _ _ _ _ _ _ _ _ _ _ _ _ _ _ _ _ _ _ _ _ _ _ _ _ _ _ _ _ _ _ _ _ _ _ _ _ _ _ _ _ _ _ _ _ _ _ _ _ _ _ _ _ _ _ _ _ _ _ _ _ _ _ _ _ _ _ _ _ _ _ _ _ w11.heap.size r11 E11 (K11.al _) (f11.alloc _) (B0_11.alloc _) (B1_11.alloc _) (B2_11.alloc _) (B3_11.alloc _) (B4_11.alloc _) (B5_11.alloc _) (Arr_at _ _ [.int .i64 r11.1.1, .int .i64 r11.1.2.1, .int .i64 r11.1.2.2.1, .int .i64 r11.1.2.2.2] _ (by simp)) (by omega) y11_BF y11_B0 y11_B1 y11_B2 y11_B3 y11_B4 y11_B5
  ·have y12_BF := BF_l12.lies
   have y12_B0 := B0_l12.lies
   have y12_B1 := B1_l12.lies
   have y12_B2 := B2_l12.lies
   have y12_B3 := B3_l12.lies
   have y12_B4 := B4_l12.lies
   have y12_B5 := B5_l12.lies
   go_simp
   clear zH
   refine hK.out _ _ ⟨(B0_l12.alloc _).drew, (B4_l12.alloc _).drew⟩ (fun zH => ?_)
   clear hK K
   refine zK 5 (by kernel_rfl) rfl (fun K hK => ?_)
   go_simp
   refine (fattitude_any b s12.2 g (fun x_ => r8.1 (k * 6 + x_)) _ (BF_l12.alloc _).drew).mono ?_
   rintro e w11 ⟨rfl, f11, k11⟩
   generalize e11 : fattitudeS s12.2 g (fun x_ => r8.1 (k * 6 + x_)) = r11 at f11 ⊢
   have E11 : Hid _ := e11
   clear e11
   have K11 : Kept b w w11 := Kept.trans (Kl12.al _).drew k11
   have B0_11 := (B0_l12.alloc _).drew.kept k11 (zG y1_BF)
   have B1_11 := (B1_l12.alloc _).drew.kept k11 (zG y2_BF)
   have B2_11 := (B2_l12.alloc _).drew.kept k11 (zG y3_BF)
   have B3_11 := (B3_l12.alloc _).drew.kept k11 (zG y4_BF)
   have B4_11 := (B4_l12.alloc _).drew.kept k11 (zG y5_BF)
   have B5_11 := (B5_l12.alloc _).drew.kept k11 (zG y6_BF)
   have B6_11 := (Arr_at _ Wl12.heap.size [.int .i64 0, .int .i64 0, .int .i64 0, .int .i64 0] _ (by simp)).drew.kept k11 (zG y12_BF)
   have z11 := B6_11.lies
   clear zH
   refine hK.out _ _ ⟨B0_11, B4_11⟩ (fun zH => ?_)
   clear hK K BF_l12 B0_l12 B1_l12 B2_l12 B3_l12 B4_l12 B5_l12 k11
   refine zK 7 (by kernel_rfl) rfl (fun K hK => ?_)
   have c14_B6_0 : w11.cell? ⟨Wl12.heap.size, 0, none⟩ = some (.int .i64 0) := B6_11.c 0 (zD rfl)
   have c14_B6_1 : w11.cell? ⟨Wl12.heap.size, 1, none⟩ = some (.int .i64 0) := B6_11.c 1 (zD rfl)
   have c14_B6_2 : w11.cell? ⟨Wl12.heap.size, 2, none⟩ = some (.int .i64 0) := B6_11.c 2 (zD rfl)
   have c14_B6_3 : w11.cell? ⟨Wl12.heap.size, 3, none⟩ = some (.int .i64 0) := B6_11.c 3 (zD rfl)
   have g14_B6_0 := B6_11.f 0 (zD rfl)
   have g14_B6_1 := B6_11.f 1 (zD rfl)
   have g14_B6_2 := B6_11.f 2 (zD rfl)
   have g14_B6_3 := B6_11.f 3 (zD rfl)
   go_simp
   clear zH
   refine hK.out _ _ ⟨((((B0_11.new Wl12.heap.size 0 (zL y12_B0) (.int .i64 r11.1.1)).new Wl12.heap.size 1 (zL y12_B0) (.int .i64 r11.1.2.1)).new Wl12.heap.size 2 (zL y12_B0) (.int .i64 r11.1.2.2.1)).new Wl12.heap.size 3 (zL y12_B0) (.int .i64 r11.1.2.2.2)), ((((B4_11.new Wl12.heap.size 0 (zL y12_B4) (.int .i64 r11.1.1)).new Wl12.heap.size 1 (zL y12_B4) (.int .i64 r11.1.2.1)).new Wl12.heap.size 2 (zL y12_B4) (.int .i64 r11.1.2.2.1)).new Wl12.heap.size 3 (zL y12_B4) (.int .i64 r11.1.2.2.2))⟩ (fun zH => ?_)
   clear hK K c14_B6_0 c14_B6_1 c14_B6_2 c14_B6_3 g14_B6_0 g14_B6_1 g14_B6_2 g14_B6_3
   refine wpAnyH_done (by kernel_rfl) ?_ _
   clear zH
   refine put_cont hKK3 ?_
   exact cont3 _ _ _ _ _ _ _ _ _ _ _ _ _ _ _ _ _ _ _ _ _ _ _ _ _ _ _ _ _ _ _ _ _ _ _ _ _ _ _ _ _ _ _ _ _ _ _ _ _ _ _ _ _ _ _ _ _ _ _ _ _ _ _ _ _ _ _ _ _ _ _ _ _ _ _ _ _ _ _ _ _ _ _ _ _ _ _ _ _ _ _ _ _ _ _ _ _ _ _ _ _ _ _ _ _ _ _ _ _ _ _ _ _ _ _ _ _ _ _ _ _ _ _ _ _ _ _ _ _ _ _ _ _ _ _ _ _ _ _ _ _ _ _ _ _ _ _ _ _ _ _ _ _ _ _ _ _ _ _ _ _ _ _ _ _ _ _ _ _ _ _ _ _ _ _ _ _ _ _ _ _ _ _ _ _ _ _ _ _ _ _ _ _ _ _ _ _ _ _ _ _ _ _ _ _ _ _ _ _ _ _ _ _ _ _ _ _ _ _ _ _ _ _ _ _ _ _ _ _ _ _ _ _ _ _ _ _ _ _ _ _ _ _ _ _ _ _ _ _ _ _ _ _ _ _ _ _ _ _ _ _ _ _ _ _ _ _ _ _ _ _ _ _ _ _ _ _ _ _ _ _ _ _ Wl12.heap.size r11 E11 ((((K11.new _ _ (by omega) _).new _ _ (by omega) _).new _ _ (by omega) _).new _ _ (by omega) _) ((((f11.new Wl12.heap.size 0 (zL y12_BF) (.int .i64 r11.1.1)).new Wl12.heap.size 1 (zL y12_BF) (.int .i64 r11.1.2.1)).new Wl12.heap.size 2 (zL y12_BF) (.int .i64 r11.1.2.2.1)).new Wl12.heap.size 3 (zL y12_BF) (.int .i64 r11.1.2.2.2)) ((((B0_11.new Wl12.heap.size 0 (zL y12_B0) (.int .i64 r11.1.1)).new Wl12.heap.size 1 (zL y12_B0) (.int .i64 r11.1.2.1)).new Wl12.heap.size 2 (zL y12_B0) (.int .i64 r11.1.2.2.1)).new Wl12.heap.size 3 (zL y12_B0) (.int .i64 r11.1.2.2.2)) ((((B1_11.new Wl12.heap.size 0 (zL y12_B1) (.int .i64 r11.1.1)).new Wl12.heap.size 1 (zL y12_B1) (.int .i64 r11.1.2.1)).new Wl12.heap.size 2 (zL y12_B1) (.int .i64 r11.1.2.2.1)).new Wl12.heap.size 3 (zL y12_B1) (.int .i64 r11.1.2.2.2)) ((((B2_11.new Wl12.heap.size 0 (zL y12_B2) (.int .i64 r11.1.1)).new Wl12.heap.size 1 (zL y12_B2) (.int .i64 r11.1.2.1)).new Wl12.heap.size 2 (zL y12_B2) (.int .i64 r11.1.2.2.1)).new Wl12.heap.size 3 (zL y12_B2) (.int .i64 r11.1.2.2.2)) ((((B3_11.new Wl12.heap.size 0 (zL y12_B3) (.int .i64 r11.1.1)).new Wl12.heap.size 1 (zL y12_B3) (.int .i64 r11.1.2.1)).new Wl12.heap.size 2 (zL y12_B3) (.int .i64 r11.1.2.2.1)).new Wl12.heap.size 3 (zL y12_B3) (.int .i64 r11.1.2.2.2)) ((((B4_11.new Wl12.heap.size 0 (zL y12_B4) (.int .i64 r11.1.1)).new Wl12.heap.size 1 (zL y12_B4) (.int .i64 r11.1.2.1)).new Wl12.heap.size 2 (zL y12_B4) (.int .i64 r11.1.2.2.1)).new Wl12.heap.size 3 (zL y12_B4) (.int .i64 r11.1.2.2.2)) ((((B5_11.new Wl12.heap.size 0 (zL y12_B5) (.int .i64 r11.1.1)).new Wl12.heap.size 1 (zL y12_B5) (.int .i64 r11.1.2.1)).new Wl12.heap.size 2 (zL y12_B5) (.int .i64 r11.1.2.2.1)).new Wl12.heap.size 3 (zL y12_B5) (.int .i64 r11.1.2.2.2)) ((((B6_11.put 0 (zD rfl) (.int .i64 r11.1.1) [.int .i64 r11.1.1, .int .i64 0, .int .i64 0, .int .i64 0] rfl).put 1 (zD rfl) (.int .i64 r11.1.2.1) [.int .i64 r11.1.1, .int .i64 r11.1.2.1, .int .i64 0, .int .i64 0] rfl).put 2 (zD rfl) (.int .i64 r11.1.2.2.1) [.int .i64 r11.1.1, .int .i64 r11.1.2.1, .int .i64 r11.1.2.2.1, .int .i64 0] rfl).put 3 (zD rfl) (.int .i64 r11.1.2.2.2) [.int .i64 r11.1.1, .int .i64 r11.1.2.1, .int .i64 r11.1.2.2.1, .int .i64 r11.1.2.2.2] rfl) (by omega) y12_BF y12_B0 y12_B1 y12_B2 y12_B3 y12_B4 y12_B5
 ·intro a Wl12 hI R
  rw [hJ12.out] at hI
  refine hI _ ?_
  clear hI hJ12
  intro r11 A12 C12 D12 F12 G12 L12 M12 N12 O12 P12 Q12 R12 S12 T12 U12 Y12 Z12 E11 ea Kl12 BF_l12 B0_l12 B1_l12 B2_l12 B3_l12 B4_l12 B5_l12
  subst ea
  have zl12_BF := BF_l12.lies
  have zl12_B0 := B0_l12.lies
  have zl12_B1 := B1_l12.lies
  have zl12_B2 := B2_l12.lies
  have zl12_B3 := B3_l12.lies
  have zl12_B4 := B4_l12.lies
  have zl12_B5 := B5_l12.lies
  have y13_BF := BF_l12.lies
  have y13_B0 := B0_l12.lies
  have y13_B2 := B2_l12.lies
  have y13_B3 := B3_l12.lies
  have y13_B4 := B4_l12.lies
  have y13_B5 := B5_l12.lies
  go_wp2_with fail
  obtain ⟨J11, hJ11⟩ : ∃ J : Nat → Act → World → Prop, Hid (J = fun i a Wl11 => ∀ G_ : Prop, (∀ (s11 : (Nat → Int) × Bool) (A11 C11 D11 F11 G11 L11 M11 N11 O11 P11 Q11 R11 S11 T11 U11 Y11 Z11 : Nat → Value), Hid (fMeetS_l11 r11 ((fun _ => 0), r11.2) i = s11) → a = { tmps := #[.pointer (some ⟨b, 0, none⟩), A11 1, A11 2, A11 3, A11 4, .pointer (some ⟨w.heap.size, 0, none⟩), A11 6, .pointer (some ⟨w.heap.size + 1 + 1, 0, none⟩), .pointer (some ⟨w.heap.size + 1 + 1 + 1, 0, none⟩), A11 9, A11 10, A11 11, .pointer (some ⟨w8.heap.size, 0, none⟩), .pointer (some ⟨w9.heap.size, 0, none⟩), A11 14, A11 15, .pointer (some ⟨Wl12.heap.size, 0, none⟩), .int .i64 (i : Int), A11 18, A11 19, C11 0, C11 1, C11 2, C11 3, C11 4, C11 5, C11 6, C11 7, C11 8, C11 9, C11 10, C11 11, C11 12, C11 13, C11 14, C11 15, C11 16, C11 17, C11 18, C11 19, D11 0, D11 1, D11 2, D11 3, D11 4, D11 5, D11 6, D11 7, D11 8, D11 9, D11 10, D11 11, D11 12, D11 13, D11 14, D11 15, D11 16, D11 17, D11 18, D11 19, F11 0, F11 1, F11 2, F11 3, F11 4, F11 5, F11 6, F11 7, F11 8, F11 9, F11 10, F11 11, F11 12, F11 13, F11 14, F11 15, F11 16, F11 17, F11 18, F11 19, G11 0, G11 1, G11 2, G11 3, G11 4, G11 5, G11 6, G11 7, G11 8, G11 9, G11 10, G11 11, G11 12, G11 13, G11 14, G11 15, G11 16, G11 17, G11 18, G11 19, L11 0, L11 1, L11 2, L11 3, L11 4, L11 5, L11 6, L11 7, L11 8, L11 9, L11 10, L11 11, L11 12, L11 13, L11 14, L11 15, L11 16, L11 17, L11 18, L11 19, M11 0, M11 1, M11 2, M11 3, M11 4, M11 5, M11 6, M11 7, M11 8, M11 9, M11 10, M11 11, M11 12, M11 13, M11 14, M11 15, M11 16, M11 17, M11 18, M11 19, N11 0, N11 1, N11 2, N11 3, N11 4, N11 5, N11 6, N11 7, N11 8, N11 9, N11 10, N11 11, N11 12, N11 13, N11 14, N11 15, N11 16, N11 17, N11 18, N11 19, O11 0, O11 1, O11 2, O11 3, O11 4, O11 5, O11 6, O11 7, O11 8, O11 9, O11 10, O11 11, O11 12, O11 13, O11 14, O11 15, O11 16, O11 17, O11 18, O11 19, P11 0, P11 1, P11 2, P11 3, P11 4, P11 5, P11 6, P11 7, P11 8, P11 9, P11 10, P11 11, P11 12, P11 13, P11 14, P11 15, P11 16, P11 17, P11 18, P11 19, Q11 0, Q11 1, Q11 2, Q11 3, Q11 4, Q11 5, Q11 6, Q11 7, Q11 8, Q11 9, Q11 10, Q11 11, Q11 12, Q11 13, Q11 14, Q11 15, Q11 16, Q11 17, Q11 18, Q11 19, R11 0, R11 1, R11 2, R11 3, R11 4, R11 5, R11 6, R11 7, R11 8, R11 9, R11 10, R11 11, R11 12, R11 13, R11 14, R11 15, R11 16, R11 17, R11 18, R11 19, S11 0, S11 1, S11 2, S11 3, S11 4, S11 5, S11 6, S11 7, S11 8, S11 9, S11 10, S11 11, S11 12, S11 13, S11 14, S11 15, S11 16, S11 17, S11 18, S11 19, T11 0, T11 1, T11 2, T11 3, T11 4, T11 5, T11 6, T11 7, T11 8, T11 9, T11 10, T11 11, T11 12, T11 13, T11 14, T11 15, T11 16, T11 17, T11 18, T11 19, U11 0, U11 1, U11 2, U11 3, U11 4, U11 5, U11 6, U11 7, U11 8, U11 9, U11 10, U11 11, U11 12, U11 13, U11 14, U11 15, U11 16, U11 17, U11 18, U11 19, Y11 0, Y11 1, Y11 2, Y11 3, Y11 4, Y11 5, Y11 6, Y11 7, Y11 8, Y11 9, Y11 10, Y11 11, Y11 12, Y11 13, Y11 14, Y11 15, Y11 16, Y11 17, Y11 18, Y11 19, Z11 0, Z11 1], defers := [] } → Kept b w Wl11 → Fl b s11.2 Wl11 → Arr w.heap.size (row 43 g) Wl11 → Arr (w.heap.size + 1 + 1) (row 6 (updF (updF (updF (updF (updF (updF body 0 r3.1.1) 1 r3.1.2.1) 2 r3.1.2.2) 3 r6.1.1) 4 r6.1.2.1) 5 r6.1.2.2)) Wl11 → Arr (w.heap.size + 1 + 1 + 1) (row 43 (fun _ => 0)) Wl11 → Arr w8.heap.size (row 78 r8.1) Wl11 → Arr w9.heap.size (row 78 r11.1) Wl11 → Arr Wl12.heap.size (row 6 s11.1) Wl11 → G_) → G_) := ⟨_, rfl⟩
  refine rounds_up J11 6 ?_ ?_ ?_
  ·refine give_act (fun a_ ea_ => ?_)
   rw [hJ11.out]
   intro G_ hG_
   exact hG_ ((fun _ => 0), r11.2) (zS a_ 0) (zS a_ 20) (zS a_ 40) (zS a_ 60) (zS a_ 80) (zS a_ 100) (zS a_ 120) (zS a_ 140) (zS a_ 160) (zS a_ 180) (zS a_ 200) (zS a_ 220) (zS a_ 240) (zS a_ 260) (zS a_ 280) (zS a_ 300) (zS a_ 320) rfl (by subst ea_; rfl) (Kl12.al _) (BF_l12.alloc _) (B0_l12.alloc _) (B2_l12.alloc _) (B3_l12.alloc _) (B4_l12.alloc _) (B5_l12.alloc _) (Arr_at _ _ (row 6 (fun _ => 0)) _ (by simp))
  ·intro i a Wl11 hi hI R hR
   rw [hJ11.out] at hI
   refine hI _ ?_
   clear hI
   intro s11 A11 C11 D11 F11 G11 L11 M11 N11 O11 P11 Q11 R11 S11 T11 U11 Y11 Z11 El11 ea Kl11 BF_l11 B0_l11 B2_l11 B3_l11 B4_l11 B5_l11 B6_l11
   subst ea
   have zl11_BF := BF_l11.lies
   have zl11_B0 := B0_l11.lies
   have zl11_B2 := B2_l11.lies
   have zl11_B3 := B3_l11.lies
   have zl11_B4 := B4_l11.lies
   have zl11_B5 := B5_l11.lies
   have zl11_B6 := B6_l11.lies
   go_wp2_with (refine row_load rfl rfl rfl B5_l11 (by kernel_rfl) (by rw [row_len]; kernel_rfl) ?_)
   refine (fmean_any b s11.2 r11.1 i _ BF_l11 (by omega)).mono ?_
   rintro e w12 ⟨rfl, f12, k12⟩
   generalize e12 : fmeanS s11.2 r11.1 i = r12 at f12 ⊢
   have E12 : Hid _ := e12
   clear e12
   try dsimp only
   have K12 : Kept b w w12 := Kept.trans Kl11 k12
   have B0_12 := B0_l11.kept k12 (zG y1_BF)
   have B2_12 := B2_l11.kept k12 (zG y3_BF)
   have B3_12 := B3_l11.kept k12 (zG y4_BF)
   have B4_12 := B4_l11.kept k12 (zG y5_BF)
   have B5_12 := B5_l11.kept k12 (zG y6_BF)
   have B6_12 := B6_l11.kept k12 (zG y13_BF)
   have z12 := B6_12.lies
   clear BF_l11 B0_l11 B2_l11 B3_l11 B4_l11 B5_l11 B6_l11 k12
   have c15_B6_0 : w12.cell? ⟨Wl12.heap.size, i, none⟩ = some (.int .i64 (s11.1 i)) := row_c B6_12 i (by omega)
   have g15_B6_1 := row_f B6_12 i (by omega)
   have i15_2 : (i : Int) < 6 := by omega
   go_wp2_with fail
   clear c15_B6_0 g15_B6_1 i15_2
   have hs11 : Hid (fMeetS_l11 r11 ((fun _ => 0), r11.2) (i + 1) = ((updF s11.1 i r12.1), r12.2)) := by show _ = _; rw [fMeetS_l11_succ]; unfold fMeetS_l11s; simp only [El11.out, E12.out]
   refine give_act (fun a_ ea_ => ?_)
   rw [hJ11.out]
   intro G_ hG_
   exact hG_ ((updF s11.1 i r12.1), r12.2) (zS a_ 0) (zS a_ 20) (zS a_ 40) (zS a_ 60) (zS a_ 80) (zS a_ 100) (zS a_ 120) (zS a_ 140) (zS a_ 160) (zS a_ 180) (zS a_ 200) (zS a_ 220) (zS a_ 240) (zS a_ 260) (zS a_ 280) (zS a_ 300) (zS a_ 320) hs11 (by subst ea_; rfl) (K12.new _ _ (by omega) _) (f12.new Wl12.heap.size i (zL y13_BF) (.int .i64 r12.1)) (B0_12.new Wl12.heap.size i (zL y13_B0) (.int .i64 r12.1)) (B2_12.new Wl12.heap.size i (zL y13_B2) (.int .i64 r12.1)) (B3_12.new Wl12.heap.size i (zL y13_B3) (.int .i64 r12.1)) (B4_12.new Wl12.heap.size i (zL y13_B4) (.int .i64 r12.1)) (B5_12.new Wl12.heap.size i (zL y13_B5) (.int .i64 r12.1)) (row_put B6_12 i (by omega) r12.1)
  ·intro a Wl11 hI R
   rw [hJ11.out] at hI
   refine hI _ ?_
   clear hI hJ11
   intro r13 A11 C11 D11 F11 G11 L11 M11 N11 O11 P11 Q11 R11 S11 T11 U11 Y11 Z11 E13 ea Kl11 BF_l11 B0_l11 B2_l11 B3_l11 B4_l11 B5_l11 B6_l11
   subst ea
   have zl11_BF := BF_l11.lies
   have zl11_B0 := B0_l11.lies
   have zl11_B2 := B2_l11.lies
   have zl11_B3 := B3_l11.lies
   have zl11_B4 := B4_l11.lies
   have zl11_B5 := B5_l11.lies
   have zl11_B6 := B6_l11.lies
   go_wp2_with (first | (refine row_load rfl rfl rfl B5_l11 (by kernel_rfl) (by rw [row_len]; kernel_rfl) ?_) | (refine row_load rfl rfl rfl B6_l11 (by kernel_rfl) (by rw [row_len]; kernel_rfl) ?_))
   refine (fless_any b r13.2 r11.1 r13.1 _ BF_l11).mono ?_
   rintro e w14 ⟨rfl, f14, k14⟩
   generalize e14 : flessS r13.2 r11.1 r13.1 = r14 at f14 ⊢
   have E14 : Hid _ := e14
   clear e14
   try dsimp only
   have K14 : Kept b w w14 := Kept.trans Kl11 k14
   have B0_14 := B0_l11.kept k14 (zG y1_BF)
   have B2_14 := B2_l11.kept k14 (zG y3_BF)
   have B3_14 := B3_l11.kept k14 (zG y4_BF)
   have B4_14 := B4_l11.kept k14 (zG y5_BF)
   have B5_14 := B5_l11.kept k14 (zG y6_BF)
   have B6_14 := B6_l11.kept k14 (zG y13_BF)
   have z14 := B6_14.lies
   clear BF_l11 B0_l11 B2_l11 B3_l11 B4_l11 B5_l11 B6_l11 k14
   have y14_BF := f14.lies
   have y14_B0 := B0_14.lies
   have y14_B2 := B2_14.lies
   have y14_B3 := B3_14.lies
   have y14_B4 := B4_14.lies
   have y14_B5 := B5_14.lies
   have y14_B6 := B6_14.lies
   go_wp2_with (refine store_stop rfl (by kernel_rfl) ?_)
   refine Stop.mk (store_row (l' := row 78 r14.1) rfl rfl rfl rfl (Arr_at _ _ (row 78 (fun _ => 0)) _ (by simp)) (by simp only [row_len]) (by rw [row_len]; kernel_rfl) (row_one _ _) ?_)
   intro w15 B7_15 o15
   have K15 : Kept b w w15 := Kept.off (K14.al _) o15 (by omega)
   have BF_15 := (f14.alloc _).off o15 (zL y14_BF)
   have B0_15 := (B0_14.alloc _).off o15 (zL y14_B0)
   have B2_15 := (B2_14.alloc _).off o15 (zL y14_B2)
   have B3_15 := (B3_14.alloc _).off o15 (zL y14_B3)
   have B4_15 := (B4_14.alloc _).off o15 (zL y14_B4)
   have B5_15 := (B5_14.alloc _).off o15 (zL y14_B5)
   have B6_15 := (B6_14.alloc _).off o15 (zL y14_B6)
   have z15_B7 := B7_15.lies
   have z15_BF := BF_15.lies
   have z15_B0 := B0_15.lies
   have z15_B2 := B2_15.lies
   have z15_B3 := B3_15.lies
   have z15_B4 := B4_15.lies
   have z15_B5 := B5_15.lies
   have z15_B6 := B6_15.lies
   clear K14 f14 B0_14 B2_14 B3_14 B4_14 B5_14 B6_14 o15
   have y15_BF := BF_15.lies
   have y15_B0 := B0_15.lies
   have y15_B2 := B2_15.lies
   have y15_B3 := B3_15.lies
   have y15_B4 := B4_15.lies
   have y15_B6 := B6_15.lies
   have y15_B7 := B7_15.lies
   go_wp2_with (refine store_stop rfl (by kernel_rfl) ?_)
   refine Stop.mk (store_row (l' := row 36 (fun _ => 0)) rfl rfl rfl rfl (Arr_at _ _ (row 36 (fun _ => 0)) _ (by simp)) (by simp only [row_len]) (by rw [row_len]; kernel_rfl) (row_one _ _) ?_)
   intro w16 B8_16 o16
   have K16 : Kept b w w16 := Kept.off (K15.al _) o16 (by omega)
   have BF_16 := (BF_15.alloc _).off o16 (zL y15_BF)
   have B0_16 := (B0_15.alloc _).off o16 (zL y15_B0)
   have B2_16 := (B2_15.alloc _).off o16 (zL y15_B2)
   have B3_16 := (B3_15.alloc _).off o16 (zL y15_B3)
   have B4_16 := (B4_15.alloc _).off o16 (zL y15_B4)
   have B6_16 := (B6_15.alloc _).off o16 (zL y15_B6)
   have B7_16 := (B7_15.alloc _).off o16 (zL y15_B7)
   have z16_B8 := B8_16.lies
   have z16_BF := BF_16.lies
   have z16_B0 := B0_16.lies
   have z16_B2 := B2_16.lies
   have z16_B3 := B3_16.lies
   have z16_B4 := B4_16.lies
   have z16_B6 := B6_16.lies
   have z16_B7 := B7_16.lies
   clear K15 BF_15 B0_15 B2_15 B3_15 B4_15 B6_15 B7_15 o16
   have y16_BF := BF_16.lies
   have y16_B0 := B0_16.lies
   have y16_B2 := B2_16.lies
   have y16_B3 := B3_16.lies
   have y16_B4 := B4_16.lies
   have y16_B6 := B6_16.lies
   have y16_B7 := B7_16.lies
   have y16_B8 := B8_16.lies
   go_wp2_with (refine store_stop rfl (by kernel_rfl) ?_)
   refine Stop.mk (store_row (l' := row 36 (fun _ => 0)) rfl rfl rfl rfl (Arr_at _ _ (row 36 (fun _ => 0)) _ (by simp)) (by simp only [row_len]) (by rw [row_len]; kernel_rfl) (row_one _ _) ?_)
   intro w17 B9_17 o17
   have K17 : Kept b w w17 := Kept.off (K16.al _) o17 (by omega)
   have BF_17 := (BF_16.alloc _).off o17 (zL y16_BF)
   have B0_17 := (B0_16.alloc _).off o17 (zL y16_B0)
   have B2_17 := (B2_16.alloc _).off o17 (zL y16_B2)
   have B3_17 := (B3_16.alloc _).off o17 (zL y16_B3)
   have B4_17 := (B4_16.alloc _).off o17 (zL y16_B4)
   have B6_17 := (B6_16.alloc _).off o17 (zL y16_B6)
   have B7_17 := (B7_16.alloc _).off o17 (zL y16_B7)
   have B8_17 := (B8_16.alloc _).off o17 (zL y16_B8)
   have z17_B9 := B9_17.lies
   have z17_BF := BF_17.lies
   have z17_B0 := B0_17.lies
   have z17_B2 := B2_17.lies
   have z17_B3 := B3_17.lies
   have z17_B4 := B4_17.lies
   have z17_B6 := B6_17.lies
   have z17_B7 := B7_17.lies
   have z17_B8 := B8_17.lies
   clear K16 BF_16 B0_16 B2_16 B3_16 B4_16 B6_16 B7_16 B8_16 o17
   go_wp2_with fail
   obtain ⟨J9, hJ9⟩ : ∃ J : Nat → Act → World → Prop, Hid (J = fun i a Wl9 => ∀ G_ : Prop, (∀ (s9 : (Nat → Int) × (Nat → Int) × Bool) (A9 C9 D9 F9 G9 L9 M9 N9 O9 P9 Q9 R9 S9 T9 U9 Y9 Z9 : Nat → Value), Hid (fMeetS_l9 r8 r14 ((fun _ => 0), (fun _ => 0), r14.2) i = s9) → a = { tmps := #[.pointer (some ⟨b, 0, none⟩), A9 1, A9 2, A9 3, A9 4, .pointer (some ⟨w.heap.size, 0, none⟩), A9 6, .pointer (some ⟨w.heap.size + 1 + 1, 0, none⟩), .pointer (some ⟨w.heap.size + 1 + 1 + 1, 0, none⟩), A9 9, A9 10, A9 11, .pointer (some ⟨w8.heap.size, 0, none⟩), A9 13, A9 14, A9 15, .pointer (some ⟨Wl12.heap.size, 0, none⟩), A9 17, .pointer (some ⟨w14.heap.size, 0, none⟩), .pointer (some ⟨w15.heap.size, 0, none⟩), .pointer (some ⟨w16.heap.size, 0, none⟩), .int .i64 (i : Int), C9 2, C9 3, C9 4, C9 5, C9 6, C9 7, C9 8, C9 9, C9 10, C9 11, C9 12, C9 13, C9 14, C9 15, C9 16, C9 17, C9 18, C9 19, D9 0, D9 1, D9 2, D9 3, D9 4, D9 5, D9 6, D9 7, D9 8, D9 9, D9 10, D9 11, D9 12, D9 13, D9 14, D9 15, D9 16, D9 17, D9 18, D9 19, F9 0, F9 1, F9 2, F9 3, F9 4, F9 5, F9 6, F9 7, F9 8, F9 9, F9 10, F9 11, F9 12, F9 13, F9 14, F9 15, F9 16, F9 17, F9 18, F9 19, G9 0, G9 1, G9 2, G9 3, G9 4, G9 5, G9 6, G9 7, G9 8, G9 9, G9 10, G9 11, G9 12, G9 13, G9 14, G9 15, G9 16, G9 17, G9 18, G9 19, L9 0, L9 1, L9 2, L9 3, L9 4, L9 5, L9 6, L9 7, L9 8, L9 9, L9 10, L9 11, L9 12, L9 13, L9 14, L9 15, L9 16, L9 17, L9 18, L9 19, M9 0, M9 1, M9 2, M9 3, M9 4, M9 5, M9 6, M9 7, M9 8, M9 9, M9 10, M9 11, M9 12, M9 13, M9 14, M9 15, M9 16, M9 17, M9 18, M9 19, N9 0, N9 1, N9 2, N9 3, N9 4, N9 5, N9 6, N9 7, N9 8, N9 9, N9 10, N9 11, N9 12, N9 13, N9 14, N9 15, N9 16, N9 17, N9 18, N9 19, O9 0, O9 1, O9 2, O9 3, O9 4, O9 5, O9 6, O9 7, O9 8, O9 9, O9 10, O9 11, O9 12, O9 13, O9 14, O9 15, O9 16, O9 17, O9 18, O9 19, P9 0, P9 1, P9 2, P9 3, P9 4, P9 5, P9 6, P9 7, P9 8, P9 9, P9 10, P9 11, P9 12, P9 13, P9 14, P9 15, P9 16, P9 17, P9 18, P9 19, Q9 0, Q9 1, Q9 2, Q9 3, Q9 4, Q9 5, Q9 6, Q9 7, Q9 8, Q9 9, Q9 10, Q9 11, Q9 12, Q9 13, Q9 14, Q9 15, Q9 16, Q9 17, Q9 18, Q9 19, R9 0, R9 1, R9 2, R9 3, R9 4, R9 5, R9 6, R9 7, R9 8, R9 9, R9 10, R9 11, R9 12, R9 13, R9 14, R9 15, R9 16, R9 17, R9 18, R9 19, S9 0, S9 1, S9 2, S9 3, S9 4, S9 5, S9 6, S9 7, S9 8, S9 9, S9 10, S9 11, S9 12, S9 13, S9 14, S9 15, S9 16, S9 17, S9 18, S9 19, T9 0, T9 1, T9 2, T9 3, T9 4, T9 5, T9 6, T9 7, T9 8, T9 9, T9 10, T9 11, T9 12, T9 13, T9 14, T9 15, T9 16, T9 17, T9 18, T9 19, U9 0, U9 1, U9 2, U9 3, U9 4, U9 5, U9 6, U9 7, U9 8, U9 9, U9 10, U9 11, U9 12, U9 13, U9 14, U9 15, U9 16, U9 17, U9 18, U9 19, Y9 0, Y9 1, Y9 2, Y9 3, Y9 4, Y9 5, Y9 6, Y9 7, Y9 8, Y9 9, Y9 10, Y9 11, Y9 12, Y9 13, Y9 14, Y9 15, Y9 16, Y9 17, Y9 18, Y9 19, Z9 0, Z9 1], defers := [] } → Kept b w Wl9 → Fl b s9.2.2 Wl9 → Arr w.heap.size (row 43 g) Wl9 → Arr (w.heap.size + 1 + 1) (row 6 (updF (updF (updF (updF (updF (updF body 0 r3.1.1) 1 r3.1.2.1) 2 r3.1.2.2) 3 r6.1.1) 4 r6.1.2.1) 5 r6.1.2.2)) Wl9 → Arr (w.heap.size + 1 + 1 + 1) (row 43 (fun _ => 0)) Wl9 → Arr w8.heap.size (row 78 r8.1) Wl9 → Arr Wl12.heap.size (row 6 r13.1) Wl9 → Arr w14.heap.size (row 78 r14.1) Wl9 → Arr w15.heap.size (row 36 s9.1) Wl9 → Arr w16.heap.size (row 36 s9.2.1) Wl9 → G_) → G_) := ⟨_, rfl⟩
   refine rounds_up J9 6 ?_ ?_ ?_
   ·refine give_act (fun a_ ea_ => ?_)
    rw [hJ9.out]
    intro G_ hG_
    exact hG_ ((fun _ => 0), (fun _ => 0), r14.2) (zS a_ 0) (zS a_ 20) (zS a_ 40) (zS a_ 60) (zS a_ 80) (zS a_ 100) (zS a_ 120) (zS a_ 140) (zS a_ 160) (zS a_ 180) (zS a_ 200) (zS a_ 220) (zS a_ 240) (zS a_ 260) (zS a_ 280) (zS a_ 300) (zS a_ 320) rfl (by subst ea_; rfl) K17 BF_17 B0_17 B2_17 B3_17 B4_17 B6_17 B7_17 B8_17 B9_17
   ·intro i a Wl9 hi hI R hR
    rw [hJ9.out] at hI
    refine hI _ ?_
    clear hI
    intro s9 A9 C9 D9 F9 G9 L9 M9 N9 O9 P9 Q9 R9 S9 T9 U9 Y9 Z9 El9 ea Kl9 BF_l9 B0_l9 B2_l9 B3_l9 B4_l9 B6_l9 B7_l9 B8_l9 B9_l9
    subst ea
    have zl9_BF := BF_l9.lies
    have zl9_B0 := B0_l9.lies
    have zl9_B2 := B2_l9.lies
    have zl9_B3 := B3_l9.lies
    have zl9_B4 := B4_l9.lies
    have zl9_B6 := B6_l9.lies
    have zl9_B7 := B7_l9.lies
    have zl9_B8 := B8_l9.lies
    have zl9_B9 := B9_l9.lies
    go_wp2_with fail
    obtain ⟨J10, hJ10⟩ : ∃ J : Nat → Act → World → Prop, Hid (J = fun j a Wl10 => ∀ G_ : Prop, (∀ (s10 : (Nat → Int) × (Nat → Int) × Bool) (A10 C10 D10 F10 G10 L10 M10 N10 O10 P10 Q10 R10 S10 T10 U10 Y10 Z10 : Nat → Value), Hid (fMeetS_l10 r8 r14 i (s9.1, s9.2.1, s9.2.2) j = s10) → a = { tmps := #[.pointer (some ⟨b, 0, none⟩), A10 1, A10 2, A10 3, A10 4, .pointer (some ⟨w.heap.size, 0, none⟩), A10 6, .pointer (some ⟨w.heap.size + 1 + 1, 0, none⟩), .pointer (some ⟨w.heap.size + 1 + 1 + 1, 0, none⟩), A10 9, A10 10, A10 11, .pointer (some ⟨w8.heap.size, 0, none⟩), A10 13, A10 14, A10 15, .pointer (some ⟨Wl12.heap.size, 0, none⟩), A10 17, .pointer (some ⟨w14.heap.size, 0, none⟩), .pointer (some ⟨w15.heap.size, 0, none⟩), .pointer (some ⟨w16.heap.size, 0, none⟩), .int .i64 (i : Int), .int .i64 (j : Int), C10 3, C10 4, C10 5, C10 6, C10 7, C10 8, C10 9, C10 10, C10 11, C10 12, C10 13, C10 14, C10 15, C10 16, C10 17, C10 18, C10 19, D10 0, D10 1, D10 2, D10 3, D10 4, D10 5, D10 6, D10 7, D10 8, D10 9, D10 10, D10 11, D10 12, D10 13, D10 14, D10 15, D10 16, D10 17, D10 18, D10 19, F10 0, F10 1, F10 2, F10 3, F10 4, F10 5, F10 6, F10 7, F10 8, F10 9, F10 10, F10 11, F10 12, F10 13, F10 14, F10 15, F10 16, F10 17, F10 18, F10 19, G10 0, G10 1, G10 2, G10 3, G10 4, G10 5, G10 6, G10 7, G10 8, G10 9, G10 10, G10 11, G10 12, G10 13, G10 14, G10 15, G10 16, G10 17, G10 18, G10 19, L10 0, L10 1, L10 2, L10 3, L10 4, L10 5, L10 6, L10 7, L10 8, L10 9, L10 10, L10 11, L10 12, L10 13, L10 14, L10 15, L10 16, L10 17, L10 18, L10 19, M10 0, M10 1, M10 2, M10 3, M10 4, M10 5, M10 6, M10 7, M10 8, M10 9, M10 10, M10 11, M10 12, M10 13, M10 14, M10 15, M10 16, M10 17, M10 18, M10 19, N10 0, N10 1, N10 2, N10 3, N10 4, N10 5, N10 6, N10 7, N10 8, N10 9, N10 10, N10 11, N10 12, N10 13, N10 14, N10 15, N10 16, N10 17, N10 18, N10 19, O10 0, O10 1, O10 2, O10 3, O10 4, O10 5, O10 6, O10 7, O10 8, O10 9, O10 10, O10 11, O10 12, O10 13, O10 14, O10 15, O10 16, O10 17, O10 18, O10 19, P10 0, P10 1, P10 2, P10 3, P10 4, P10 5, P10 6, P10 7, P10 8, P10 9, P10 10, P10 11, P10 12, P10 13, P10 14, P10 15, P10 16, P10 17, P10 18, P10 19, Q10 0, Q10 1, Q10 2, Q10 3, Q10 4, Q10 5, Q10 6, Q10 7, Q10 8, Q10 9, Q10 10, Q10 11, Q10 12, Q10 13, Q10 14, Q10 15, Q10 16, Q10 17, Q10 18, Q10 19, R10 0, R10 1, R10 2, R10 3, R10 4, R10 5, R10 6, R10 7, R10 8, R10 9, R10 10, R10 11, R10 12, R10 13, R10 14, R10 15, R10 16, R10 17, R10 18, R10 19, S10 0, S10 1, S10 2, S10 3, S10 4, S10 5, S10 6, S10 7, S10 8, S10 9, S10 10, S10 11, S10 12, S10 13, S10 14, S10 15, S10 16, S10 17, S10 18, S10 19, T10 0, T10 1, T10 2, T10 3, T10 4, T10 5, T10 6, T10 7, T10 8, T10 9, T10 10, T10 11, T10 12, T10 13, T10 14, T10 15, T10 16, T10 17, T10 18, T10 19, U10 0, U10 1, U10 2, U10 3, U10 4, U10 5, U10 6, U10 7, U10 8, U10 9, U10 10, U10 11, U10 12, U10 13, U10 14, U10 15, U10 16, U10 17, U10 18, U10 19, Y10 0, Y10 1, Y10 2, Y10 3, Y10 4, Y10 5, Y10 6, Y10 7, Y10 8, Y10 9, Y10 10, Y10 11, Y10 12, Y10 13, Y10 14, Y10 15, Y10 16, Y10 17, Y10 18, Y10 19, Z10 0, Z10 1], defers := [] } → Kept b w Wl10 → Fl b s10.2.2 Wl10 → Arr w.heap.size (row 43 g) Wl10 → Arr (w.heap.size + 1 + 1) (row 6 (updF (updF (updF (updF (updF (updF body 0 r3.1.1) 1 r3.1.2.1) 2 r3.1.2.2) 3 r6.1.1) 4 r6.1.2.1) 5 r6.1.2.2)) Wl10 → Arr (w.heap.size + 1 + 1 + 1) (row 43 (fun _ => 0)) Wl10 → Arr w8.heap.size (row 78 r8.1) Wl10 → Arr Wl12.heap.size (row 6 r13.1) Wl10 → Arr w14.heap.size (row 78 r14.1) Wl10 → Arr w15.heap.size (row 36 s10.1) Wl10 → Arr w16.heap.size (row 36 s10.2.1) Wl10 → G_) → G_) := ⟨_, rfl⟩
    refine rounds_up J10 6 ?_ ?_ ?_
    ·refine give_act (fun a_ ea_ => ?_)
     rw [hJ10.out]
     intro G_ hG_
     exact hG_ (s9.1, s9.2.1, s9.2.2) (zS a_ 0) (zS a_ 20) (zS a_ 40) (zS a_ 60) (zS a_ 80) (zS a_ 100) (zS a_ 120) (zS a_ 140) (zS a_ 160) (zS a_ 180) (zS a_ 200) (zS a_ 220) (zS a_ 240) (zS a_ 260) (zS a_ 280) (zS a_ 300) (zS a_ 320) rfl (by subst ea_; rfl) Kl9 BF_l9 B0_l9 B2_l9 B3_l9 B4_l9 B6_l9 B7_l9 B8_l9 B9_l9
    ·intro j a Wl10 hj hI R hR
     rw [hJ10.out] at hI
     refine hI _ ?_
     clear hI
     intro s10 A10 C10 D10 F10 G10 L10 M10 N10 O10 P10 Q10 R10 S10 T10 U10 Y10 Z10 El10 ea Kl10 BF_l10 B0_l10 B2_l10 B3_l10 B4_l10 B6_l10 B7_l10 B8_l10 B9_l10
     subst ea
     have zl10_BF := BF_l10.lies
     have zl10_B0 := B0_l10.lies
     have zl10_B2 := B2_l10.lies
     have zl10_B3 := B3_l10.lies
     have zl10_B4 := B4_l10.lies
     have zl10_B6 := B6_l10.lies
     have zl10_B7 := B7_l10.lies
     have zl10_B8 := B8_l10.lies
     have zl10_B9 := B9_l10.lies
     go_wp2_with fail
     refine wp_region_held_drew (S := fun w' => Arr w14.heap.size (row 78 r14.1) w') (by kernel_rfl) B7_l10.drew (fun zH => ?_)
     refine zT 0 rfl (by kernel_rfl) (fun _ _ _ => id) rfl (fun _ _ => by go_simp <;> with_reducible rfl) zH ?_
     simp only [Act.put, zA, zB, zC]
     refine zT 1 rfl (by kernel_rfl) (fun _ _ _ => id) rfl (fun _ _ => by go_simp <;> with_reducible rfl) zH ?_
     simp only [Act.put, zA, zB, zC]
     refine zT 2 rfl (by kernel_rfl) (fun _ _ _ => id) rfl (fun _ _ => by go_simp <;> with_reducible rfl) zH ?_
     simp only [Act.put, zA, zB, zC]
     refine take_at (i := 3) rfl (by kernel_rfl) (by kernel_rfl) (by kernel_rfl) (fun _ _ _ h => h) (row_yield (by rfl) rfl rfl (fun _ hS => hS) (by kernel_rfl) (by rw [row_len]; kernel_rfl)) zH ?_
     simp only [Act.put, zA, zB, zC]
     refine zT 4 rfl (by kernel_rfl) (fun _ _ _ => id) rfl (fun _ _ => by go_simp <;> with_reducible rfl) zH ?_
     simp only [Act.put, zA, zB, zC]
     refine take_at (i := 5) rfl (by kernel_rfl) (by kernel_rfl) (by kernel_rfl) (fun _ _ _ h => h) (row_yield (by rfl) rfl rfl (fun _ hS => hS) (by kernel_rfl) (by rw [row_len]; kernel_rfl)) zH ?_
     simp only [Act.put, zA, zB, zC]
     refine zT 6 rfl (by kernel_rfl) (fun _ _ _ => id) rfl (fun _ _ => by go_simp <;> with_reducible rfl) zH ?_
     simp only [Act.put, zA, zB, zC]
     refine zT 8 rfl (by kernel_rfl) (fun _ _ _ => id) rfl (fun _ _ => by have hi0 : (i : Int) < 6 := (by omega); go_simp <;> with_reducible rfl) zH ?_
     simp only [Act.put, zA, zB, zC]
     refine zK 7 (by kernel_rfl) rfl (fun K hK => ?_)
     go_simp
     refine (fproducts_any b s10.2.2 r14.1 i r14.1 j _ BF_l10.drew (by omega) (by omega)).mono ?_
     rintro e w18 ⟨rfl, f18, k18⟩
     generalize e18 : fproductsS s10.2.2 r14.1 i r14.1 j = r18 at f18 ⊢
     have E18 : Hid _ := e18
     clear e18
     have K18 : Kept b w w18 := Kept.trans Kl10.drew k18
     have B0_18 := B0_l10.drew.kept k18 (zG y1_BF)
     have B2_18 := B2_l10.drew.kept k18 (zG y3_BF)
     have B3_18 := B3_l10.drew.kept k18 (zG y4_BF)
     have B4_18 := B4_l10.drew.kept k18 (zG y5_BF)
     have B6_18 := B6_l10.drew.kept k18 (zG y13_BF)
     have B7_18 := B7_l10.drew.kept k18 (zG y14_BF)
     have B8_18 := B8_l10.drew.kept k18 (zG y15_BF)
     have B9_18 := B9_l10.drew.kept k18 (zG y16_BF)
     have z18 := B9_18.lies
     clear zH
     refine hK.out _ _ B7_18 (fun zH => ?_)
     clear hK K BF_l10 B0_l10 B2_l10 B3_l10 B4_l10 B6_l10 B7_l10 B8_l10 B9_l10 k18
     refine zT 9 rfl (by kernel_rfl) (fun _ _ _ => id) rfl (fun _ _ => by have hi0 : (j : Int) < 6 := (by omega); go_simp <;> with_reducible rfl) zH ?_
     simp only [Act.put, zA, zB, zC]
     refine zK 10 (by kernel_rfl) rfl (fun K hK => ?_)
     have c23_B8_0 : w18.cell? ⟨w15.heap.size, i * 6 + j, none⟩ = some (.int .i64 (s10.1 (i * 6 + j))) := row_c B8_18 (i * 6 + j) (by omega)
     have g23_B8_1 := row_f B8_18 (i * 6 + j) (by omega)
     go_simp
     clear zH
     refine hK.out _ _ (B7_18.new w15.heap.size (i * 6 + j) (zL y15_B7) (.int .i64 r18.1)) (fun zH => ?_)
     clear hK K c23_B8_0 g23_B8_1
     refine wpAnyH_done (by kernel_rfl) ?_ _
     clear zH
     go_wp2_with fail
     refine code_letter (S := fun w' => Kept b w w' ∧ Fl b r18.2 w' ∧ Arr w.heap.size (row 43 g) w' ∧ Arr (w.heap.size + 1 + 1) (row 6 (updF (updF (updF (updF (updF (updF body 0 r3.1.1) 1 r3.1.2.1) 2 r3.1.2.2) 3 r6.1.1) 4 r6.1.2.1) 5 r6.1.2.2)) w' ∧ Arr (w.heap.size + 1 + 1 + 1) (row 43 (fun _ => 0)) w' ∧ Arr w8.heap.size (row 78 r8.1) w' ∧ Arr Wl12.heap.size (row 6 r13.1) w' ∧ Arr w14.heap.size (row 78 r14.1) w' ∧ Arr w15.heap.size (row 36 (updF s10.1 (i * 6 + j) r18.1)) w' ∧ Arr w16.heap.size (row 36 s10.2.1) w') ⟨(K18.new _ _ (by omega) _), (f18.new w15.heap.size (i * 6 + j) (zL y15_BF) (.int .i64 r18.1)), (B0_18.new w15.heap.size (i * 6 + j) (zL y15_B0) (.int .i64 r18.1)), (B2_18.new w15.heap.size (i * 6 + j) (zL y15_B2) (.int .i64 r18.1)), (B3_18.new w15.heap.size (i * 6 + j) (zL y15_B3) (.int .i64 r18.1)), (B4_18.new w15.heap.size (i * 6 + j) (zL y15_B4) (.int .i64 r18.1)), (B6_18.new w15.heap.size (i * 6 + j) (zL y15_B6) (.int .i64 r18.1)), (B7_18.new w15.heap.size (i * 6 + j) (zL y15_B7) (.int .i64 r18.1)), (row_put B8_18 (i * 6 + j) (by omega) r18.1), (B9_18.new w15.heap.size (i * 6 + j) (zG y16_B8) (.int .i64 r18.1))⟩ ?_
     rintro w19 ⟨K19, BF_19, B0_19, B2_19, B3_19, B4_19, B6_19, B7_19, B8_19, B9_19⟩
     have z19 := B9_19.lies
     clear K18 f18 B0_18 B2_18 B3_18 B4_18 B6_18 B7_18 B8_18 B9_18
     refine wp_region_held_drew (S := fun w' => Arr w8.heap.size (row 78 r8.1) w' ∧ Arr w14.heap.size (row 78 r14.1) w') (by kernel_rfl) ⟨B4_19.drew, B7_19.drew⟩ (fun zH => ?_)
     refine zT 0 rfl (by kernel_rfl) (fun _ _ _ => id) rfl (fun _ _ => by go_simp <;> with_reducible rfl) zH ?_
     simp only [Act.put, zA, zB, zC]
     refine zT 1 rfl (by kernel_rfl) (fun _ _ _ => id) rfl (fun _ _ => by go_simp <;> with_reducible rfl) zH ?_
     simp only [Act.put, zA, zB, zC]
     refine zT 2 rfl (by kernel_rfl) (fun _ _ _ => id) rfl (fun _ _ => by go_simp <;> with_reducible rfl) zH ?_
     simp only [Act.put, zA, zB, zC]
     refine take_at (i := 3) rfl (by kernel_rfl) (by kernel_rfl) (by kernel_rfl) (fun _ _ _ h => h) (row_yield (by rfl) rfl rfl (fun _ hS => hS.1) (by kernel_rfl) (by rw [row_len]; kernel_rfl)) zH ?_
     simp only [Act.put, zA, zB, zC]
     refine zT 4 rfl (by kernel_rfl) (fun _ _ _ => id) rfl (fun _ _ => by go_simp <;> with_reducible rfl) zH ?_
     simp only [Act.put, zA, zB, zC]
     refine take_at (i := 5) rfl (by kernel_rfl) (by kernel_rfl) (by kernel_rfl) (fun _ _ _ h => h) (row_yield (by rfl) rfl rfl (fun _ hS => hS.2) (by kernel_rfl) (by rw [row_len]; kernel_rfl)) zH ?_
     simp only [Act.put, zA, zB, zC]
     refine zT 6 rfl (by kernel_rfl) (fun _ _ _ => id) rfl (fun _ _ => by go_simp <;> with_reducible rfl) zH ?_
     simp only [Act.put, zA, zB, zC]
     refine zT 8 rfl (by kernel_rfl) (fun _ _ _ => id) rfl (fun _ _ => by have hi0 : (i : Int) < 6 := (by omega); go_simp <;> with_reducible rfl) zH ?_
     simp only [Act.put, zA, zB, zC]
     refine zK 7 (by kernel_rfl) rfl (fun K hK => ?_)
     go_simp
     refine (fproducts_any b r18.2 r8.1 i r14.1 j _ BF_19.drew (by omega) (by omega)).mono ?_
     rintro e w20 ⟨rfl, f20, k20⟩
     generalize e20 : fproductsS r18.2 r8.1 i r14.1 j = r20 at f20 ⊢
     have E20 : Hid _ := e20
     clear e20
     have K20 : Kept b w w20 := Kept.trans K19.drew k20
     have B0_20 := B0_19.drew.kept k20 (zG y1_BF)
     have B2_20 := B2_19.drew.kept k20 (zG y3_BF)
     have B3_20 := B3_19.drew.kept k20 (zG y4_BF)
     have B4_20 := B4_19.drew.kept k20 (zG y5_BF)
     have B6_20 := B6_19.drew.kept k20 (zG y13_BF)
     have B7_20 := B7_19.drew.kept k20 (zG y14_BF)
     have B8_20 := B8_19.drew.kept k20 (zG y15_BF)
     have B9_20 := B9_19.drew.kept k20 (zG y16_BF)
     have z20 := B9_20.lies
     clear zH
     refine hK.out _ _ ⟨B4_20, B7_20⟩ (fun zH => ?_)
     clear hK K K19 BF_19 B0_19 B2_19 B3_19 B4_19 B6_19 B7_19 B8_19 B9_19 k20
     refine zT 9 rfl (by kernel_rfl) (fun _ _ _ => id) rfl (fun _ _ => by have hi0 : (j : Int) < 6 := (by omega); go_simp <;> with_reducible rfl) zH ?_
     simp only [Act.put, zA, zB, zC]
     refine zK 10 (by kernel_rfl) rfl (fun K hK => ?_)
     have c25_B9_0 : w20.cell? ⟨w16.heap.size, i * 6 + j, none⟩ = some (.int .i64 (s10.2.1 (i * 6 + j))) := row_c B9_20 (i * 6 + j) (by omega)
     have g25_B9_1 := row_f B9_20 (i * 6 + j) (by omega)
     go_simp
     clear zH
     refine hK.out _ _ ⟨(B4_20.new w16.heap.size (i * 6 + j) (zL y16_B4) (.int .i64 r20.1)), (B7_20.new w16.heap.size (i * 6 + j) (zL y16_B7) (.int .i64 r20.1))⟩ (fun zH => ?_)
     clear hK K c25_B9_0 g25_B9_1
     refine wpAnyH_done (by kernel_rfl) ?_ _
     clear zH
     go_wp2_with fail
     have hs10 : Hid (fMeetS_l10 r8 r14 i (s9.1, s9.2.1, s9.2.2) (j + 1) = ((updF s10.1 (i * 6 + j) r18.1), (updF s10.2.1 (i * 6 + j) r20.1), r20.2)) := by show _ = _; rw [fMeetS_l10_succ]; unfold fMeetS_l10s; simp only [El10.out, E18.out, E20.out]
     refine give_act (fun a_ ea_ => ?_)
     rw [hJ10.out]
     intro G_ hG_
     exact hG_ ((updF s10.1 (i * 6 + j) r18.1), (updF s10.2.1 (i * 6 + j) r20.1), r20.2) (zS a_ 0) (zS a_ 20) (zS a_ 40) (zS a_ 60) (zS a_ 80) (zS a_ 100) (zS a_ 120) (zS a_ 140) (zS a_ 160) (zS a_ 180) (zS a_ 200) (zS a_ 220) (zS a_ 240) (zS a_ 260) (zS a_ 280) (zS a_ 300) (zS a_ 320) hs10 (by subst ea_; rfl) (K20.new _ _ (by omega) _) (f20.new w16.heap.size (i * 6 + j) (zL y16_BF) (.int .i64 r20.1)) (B0_20.new w16.heap.size (i * 6 + j) (zL y16_B0) (.int .i64 r20.1)) (B2_20.new w16.heap.size (i * 6 + j) (zL y16_B2) (.int .i64 r20.1)) (B3_20.new w16.heap.size (i * 6 + j) (zL y16_B3) (.int .i64 r20.1)) (B4_20.new w16.heap.size (i * 6 + j) (zL y16_B4) (.int .i64 r20.1)) (B6_20.new w16.heap.size (i * 6 + j) (zL y16_B6) (.int .i64 r20.1)) (B7_20.new w16.heap.size (i * 6 + j) (zL y16_B7) (.int .i64 r20.1)) (B8_20.new w16.heap.size (i * 6 + j) (zL y16_B8) (.int .i64 r20.1)) (row_put B9_20 (i * 6 + j) (by omega) r20.1)
    ·intro a Wl10 hI R
     rw [hJ10.out] at hI
     refine hI _ ?_
     clear hI hJ10
     intro r21 A10 C10 D10 F10 G10 L10 M10 N10 O10 P10 Q10 R10 S10 T10 U10 Y10 Z10 E21 ea Kl10 BF_l10 B0_l10 B2_l10 B3_l10 B4_l10 B6_l10 B7_l10 B8_l10 B9_l10
     subst ea
     have zl10_BF := BF_l10.lies
     have zl10_B0 := B0_l10.lies
     have zl10_B2 := B2_l10.lies
     have zl10_B3 := B3_l10.lies
     have zl10_B4 := B4_l10.lies
     have zl10_B6 := B6_l10.lies
     have zl10_B7 := B7_l10.lies
     have zl10_B8 := B8_l10.lies
     have zl10_B9 := B9_l10.lies
     go_wp2_with fail
     have hs9 : Hid (fMeetS_l9 r8 r14 ((fun _ => 0), (fun _ => 0), r14.2) (i + 1) = (r21.1, r21.2.1, r21.2.2)) := by show _ = _; rw [fMeetS_l9_succ]; unfold fMeetS_l9s; simp only [El9.out, E21.out]
     refine give_act (fun a_ ea_ => ?_)
     rw [hJ9.out]
     intro G_ hG_
     exact hG_ (r21.1, r21.2.1, r21.2.2) (zS a_ 0) (zS a_ 20) (zS a_ 40) (zS a_ 60) (zS a_ 80) (zS a_ 100) (zS a_ 120) (zS a_ 140) (zS a_ 160) (zS a_ 180) (zS a_ 200) (zS a_ 220) (zS a_ 240) (zS a_ 260) (zS a_ 280) (zS a_ 300) (zS a_ 320) hs9 (by subst ea_; rfl) Kl10 BF_l10 B0_l10 B2_l10 B3_l10 B4_l10 B6_l10 B7_l10 B8_l10 B9_l10
   ·intro a Wl9 hI R
    rw [hJ9.out] at hI
    refine hI _ ?_
    clear hI hJ9
    intro r18 A9 C9 D9 F9 G9 L9 M9 N9 O9 P9 Q9 R9 S9 T9 U9 Y9 Z9 E18 ea Kl9 BF_l9 B0_l9 B2_l9 B3_l9 B4_l9 B6_l9 B7_l9 B8_l9 B9_l9
    subst ea
    have zl9_BF := BF_l9.lies
    have zl9_B0 := B0_l9.lies
    have zl9_B2 := B2_l9.lies
    have zl9_B3 := B3_l9.lies
    have zl9_B4 := B4_l9.lies
    have zl9_B6 := B6_l9.lies
    have zl9_B7 := B7_l9.lies
    have zl9_B8 := B8_l9.lies
    have zl9_B9 := B9_l9.lies
    go_wp2_with fail
    obtain ⟨J8, hJ8⟩ : ∃ J : Nat → Act → World → Prop, Hid (J = fun i a Wl8 => ∀ G_ : Prop, (∀ (s8 : (Nat → Int) × Bool) (A8 C8 D8 F8 G8 L8 M8 N8 O8 P8 Q8 R8 S8 T8 U8 Y8 Z8 : Nat → Value), Hid (fMeetS_l8 (r18.1, r18.2.2) i = s8) → a = { tmps := #[.pointer (some ⟨b, 0, none⟩), A8 1, A8 2, A8 3, A8 4, .pointer (some ⟨w.heap.size, 0, none⟩), A8 6, .pointer (some ⟨w.heap.size + 1 + 1, 0, none⟩), .pointer (some ⟨w.heap.size + 1 + 1 + 1, 0, none⟩), A8 9, A8 10, A8 11, A8 12, A8 13, A8 14, A8 15, .pointer (some ⟨Wl12.heap.size, 0, none⟩), A8 17, A8 18, .pointer (some ⟨w15.heap.size, 0, none⟩), .pointer (some ⟨w16.heap.size, 0, none⟩), C8 1, C8 2, .int .i64 (i : Int), C8 4, C8 5, C8 6, C8 7, C8 8, C8 9, C8 10, C8 11, C8 12, C8 13, C8 14, C8 15, C8 16, C8 17, C8 18, C8 19, D8 0, D8 1, D8 2, D8 3, D8 4, D8 5, D8 6, D8 7, D8 8, D8 9, D8 10, D8 11, D8 12, D8 13, D8 14, D8 15, D8 16, D8 17, D8 18, D8 19, F8 0, F8 1, F8 2, F8 3, F8 4, F8 5, F8 6, F8 7, F8 8, F8 9, F8 10, F8 11, F8 12, F8 13, F8 14, F8 15, F8 16, F8 17, F8 18, F8 19, G8 0, G8 1, G8 2, G8 3, G8 4, G8 5, G8 6, G8 7, G8 8, G8 9, G8 10, G8 11, G8 12, G8 13, G8 14, G8 15, G8 16, G8 17, G8 18, G8 19, L8 0, L8 1, L8 2, L8 3, L8 4, L8 5, L8 6, L8 7, L8 8, L8 9, L8 10, L8 11, L8 12, L8 13, L8 14, L8 15, L8 16, L8 17, L8 18, L8 19, M8 0, M8 1, M8 2, M8 3, M8 4, M8 5, M8 6, M8 7, M8 8, M8 9, M8 10, M8 11, M8 12, M8 13, M8 14, M8 15, M8 16, M8 17, M8 18, M8 19, N8 0, N8 1, N8 2, N8 3, N8 4, N8 5, N8 6, N8 7, N8 8, N8 9, N8 10, N8 11, N8 12, N8 13, N8 14, N8 15, N8 16, N8 17, N8 18, N8 19, O8 0, O8 1, O8 2, O8 3, O8 4, O8 5, O8 6, O8 7, O8 8, O8 9, O8 10, O8 11, O8 12, O8 13, O8 14, O8 15, O8 16, O8 17, O8 18, O8 19, P8 0, P8 1, P8 2, P8 3, P8 4, P8 5, P8 6, P8 7, P8 8, P8 9, P8 10, P8 11, P8 12, P8 13, P8 14, P8 15, P8 16, P8 17, P8 18, P8 19, Q8 0, Q8 1, Q8 2, Q8 3, Q8 4, Q8 5, Q8 6, Q8 7, Q8 8, Q8 9, Q8 10, Q8 11, Q8 12, Q8 13, Q8 14, Q8 15, Q8 16, Q8 17, Q8 18, Q8 19, R8 0, R8 1, R8 2, R8 3, R8 4, R8 5, R8 6, R8 7, R8 8, R8 9, R8 10, R8 11, R8 12, R8 13, R8 14, R8 15, R8 16, R8 17, R8 18, R8 19, S8 0, S8 1, S8 2, S8 3, S8 4, S8 5, S8 6, S8 7, S8 8, S8 9, S8 10, S8 11, S8 12, S8 13, S8 14, S8 15, S8 16, S8 17, S8 18, S8 19, T8 0, T8 1, T8 2, T8 3, T8 4, T8 5, T8 6, T8 7, T8 8, T8 9, T8 10, T8 11, T8 12, T8 13, T8 14, T8 15, T8 16, T8 17, T8 18, T8 19, U8 0, U8 1, U8 2, U8 3, U8 4, U8 5, U8 6, U8 7, U8 8, U8 9, U8 10, U8 11, U8 12, U8 13, U8 14, U8 15, U8 16, U8 17, U8 18, U8 19, Y8 0, Y8 1, Y8 2, Y8 3, Y8 4, Y8 5, Y8 6, Y8 7, Y8 8, Y8 9, Y8 10, Y8 11, Y8 12, Y8 13, Y8 14, Y8 15, Y8 16, Y8 17, Y8 18, Y8 19, Z8 0, Z8 1], defers := [] } → Kept b w Wl8 → Fl b s8.2 Wl8 → Arr w.heap.size (row 43 g) Wl8 → Arr (w.heap.size + 1 + 1) (row 6 (updF (updF (updF (updF (updF (updF body 0 r3.1.1) 1 r3.1.2.1) 2 r3.1.2.2) 3 r6.1.1) 4 r6.1.2.1) 5 r6.1.2.2)) Wl8 → Arr (w.heap.size + 1 + 1 + 1) (row 43 (fun _ => 0)) Wl8 → Arr Wl12.heap.size (row 6 r13.1) Wl8 → Arr w15.heap.size (row 36 s8.1) Wl8 → Arr w16.heap.size (row 36 r18.2.1) Wl8 → G_) → G_) := ⟨_, rfl⟩
    refine rounds_up J8 3 ?_ ?_ ?_
    ·refine give_act (fun a_ ea_ => ?_)
     rw [hJ8.out]
     intro G_ hG_
     exact hG_ (r18.1, r18.2.2) (zS a_ 0) (zS a_ 20) (zS a_ 40) (zS a_ 60) (zS a_ 80) (zS a_ 100) (zS a_ 120) (zS a_ 140) (zS a_ 160) (zS a_ 180) (zS a_ 200) (zS a_ 220) (zS a_ 240) (zS a_ 260) (zS a_ 280) (zS a_ 300) (zS a_ 320) rfl (by subst ea_; rfl) Kl9 BF_l9 B0_l9 B2_l9 B3_l9 B6_l9 B8_l9 B9_l9
    ·intro i a Wl8 hi hI R hR
     rw [hJ8.out] at hI
     refine hI _ ?_
     clear hI
     intro s8 A8 C8 D8 F8 G8 L8 M8 N8 O8 P8 Q8 R8 S8 T8 U8 Y8 Z8 El8 ea Kl8 BF_l8 B0_l8 B2_l8 B3_l8 B6_l8 B8_l8 B9_l8
     subst ea
     have zl8_BF := BF_l8.lies
     have zl8_B0 := B0_l8.lies
     have zl8_B2 := B2_l8.lies
     have zl8_B3 := B3_l8.lies
     have zl8_B6 := B6_l8.lies
     have zl8_B8 := B8_l8.lies
     have zl8_B9 := B9_l8.lies
     go_wp2_with fail
     refine wp_region_held_drew (S := fun w' => NearR w15.heap.size 36 s8.1 (i * 6 + i) w') (by kernel_rfl) (NearR.same B8_l8.drew) (fun zH => ?_)
     refine zT 0 rfl (by kernel_rfl) (fun _ _ _ => id) rfl (fun _ _ => by go_simp <;> with_reducible rfl) zH ?_
     simp only [Act.put, zA, zB, zC]
     refine zT 1 rfl (by kernel_rfl) (fun _ _ _ => id) rfl (fun _ _ => by go_simp <;> with_reducible rfl) zH ?_
     simp only [Act.put, zA, zB, zC]
     refine zT 2 rfl (by kernel_rfl) (fun _ _ _ => id) rfl (fun _ _ => by go_simp <;> with_reducible rfl) zH ?_
     simp only [Act.put, zA, zB, zC]
     refine zT 3 rfl (by kernel_rfl) (fun _ _ _ => id) rfl (fun _ _ => by go_simp <;> with_reducible rfl) zH ?_
     simp only [Act.put, zA, zB, zC]
     refine zT 4 rfl (by kernel_rfl) (fun _ _ _ => id) rfl (fun _ _ => by go_simp <;> with_reducible rfl) zH ?_
     simp only [Act.put, zA, zB, zC]
     refine zT 5 rfl (by kernel_rfl) (fun _ _ _ => id) rfl (fun _ _ => by have hi0 : (i : Int) < 6 := (by omega); go_simp <;> with_reducible rfl) zH ?_
     simp only [Act.put, zA, zB, zC]
     refine zT 6 rfl (by kernel_rfl) (fun _ _ _ => id) rfl (fun _ _ => by have hi0 : (i : Int) < 6 := (by omega); go_simp <;> with_reducible rfl) zH ?_
     simp only [Act.put, zA, zB, zC]
     refine zT 9 rfl (by kernel_rfl) (fun _ _ _ => id) rfl (fun _ _ => by have hi0 : (i : Int) < 6 := (by omega); go_simp <;> with_reducible rfl) zH ?_
     simp only [Act.put, zA, zB, zC]
     refine zK 7 (by kernel_rfl) rfl (fun K hK => ?_)
     have c24_B8_0 : Wl8.cell? ⟨w15.heap.size, i * 6 + i, none⟩ = some (.int .i64 (s8.1 (i * 6 + i))) := row_c B8_l8 (i * 6 + i) (by omega)
     go_simp
     clear zH
     refine hK.out _ _ (NearR.same B8_l8.drew) (fun zH => ?_)
     clear hK K c24_B8_0
     refine zK 8 (by kernel_rfl) rfl (fun K hK => ?_)
     go_simp
     refine (rAdd_any b s8.2 (s8.1 (i * 6 + i)) 67108864 _ BF_l8.drew).mono ?_
     rintro e w19 ⟨rfl, f19, k19⟩
     generalize e19 : addS s8.2 (s8.1 (i * 6 + i)) 67108864 = r19 at f19 ⊢
     have E19 : Hid _ := e19
     clear e19
     have K19 : Kept b w w19 := Kept.trans Kl8.drew k19
     have B0_19 := B0_l8.drew.kept k19 (zG y1_BF)
     have B2_19 := B2_l8.drew.kept k19 (zG y3_BF)
     have B3_19 := B3_l8.drew.kept k19 (zG y4_BF)
     have B6_19 := B6_l8.drew.kept k19 (zG y13_BF)
     have B8_19 := B8_l8.drew.kept k19 (zG y15_BF)
     have B9_19 := B9_l8.drew.kept k19 (zG y16_BF)
     have z19 := B9_19.lies
     clear zH
     refine hK.out _ _ (NearR.same B8_19) (fun zH => ?_)
     clear hK K BF_l8 B0_l8 B2_l8 B3_l8 B6_l8 B8_l8 B9_l8 k19
     refine zT 10 rfl (by kernel_rfl) (fun _ _ _ => id) rfl (fun _ _ => by have hi0 : (i : Int) < 6 := (by omega); go_simp <;> with_reducible rfl) zH ?_
     simp only [Act.put, zA, zB, zC]
     refine zK 11 (by kernel_rfl) rfl (fun K hK => ?_)
     have c25_B8_0 : w19.cell? ⟨w15.heap.size, i * 6 + i, none⟩ = some (.int .i64 (s8.1 (i * 6 + i))) := row_c B8_19 (i * 6 + i) (by omega)
     have g25_B8_1 := row_f B8_19 (i * 6 + i) (by omega)
     go_simp
     clear zH
     refine hK.out _ _ (NearR.upd (row_put B8_19 (i * 6 + i) (by omega) r19.1)) (fun zH => ?_)
     clear hK K c25_B8_0 g25_B8_1
     refine wpAnyH_done (by kernel_rfl) ?_ _
     clear zH
     go_wp2_with fail
     refine code_letter (S := fun w' => Kept b w w' ∧ Fl b r19.2 w' ∧ Arr w.heap.size (row 43 g) w' ∧ Arr (w.heap.size + 1 + 1) (row 6 (updF (updF (updF (updF (updF (updF body 0 r3.1.1) 1 r3.1.2.1) 2 r3.1.2.2) 3 r6.1.1) 4 r6.1.2.1) 5 r6.1.2.2)) w' ∧ Arr (w.heap.size + 1 + 1 + 1) (row 43 (fun _ => 0)) w' ∧ Arr Wl12.heap.size (row 6 r13.1) w' ∧ Arr w15.heap.size (row 36 (updF s8.1 (i * 6 + i) r19.1)) w' ∧ Arr w16.heap.size (row 36 r18.2.1) w') ⟨(K19.new _ _ (by omega) _), (f19.new w15.heap.size (i * 6 + i) (zL y15_BF) (.int .i64 r19.1)), (B0_19.new w15.heap.size (i * 6 + i) (zL y15_B0) (.int .i64 r19.1)), (B2_19.new w15.heap.size (i * 6 + i) (zL y15_B2) (.int .i64 r19.1)), (B3_19.new w15.heap.size (i * 6 + i) (zL y15_B3) (.int .i64 r19.1)), (B6_19.new w15.heap.size (i * 6 + i) (zL y15_B6) (.int .i64 r19.1)), (row_put B8_19 (i * 6 + i) (by omega) r19.1), (B9_19.new w15.heap.size (i * 6 + i) (zG y16_B8) (.int .i64 r19.1))⟩ ?_
     rintro w20 ⟨K20, BF_20, B0_20, B2_20, B3_20, B6_20, B8_20, B9_20⟩
     have z20 := B9_20.lies
     clear K19 f19 B0_19 B2_19 B3_19 B6_19 B8_19 B9_19
     refine wp_region_held_drew (S := fun w' => NearR w15.heap.size 36 (updF s8.1 (i * 6 + i) r19.1) ((i + 3) * 6 + (i + 3)) w') (by kernel_rfl) (NearR.same B8_20.drew) (fun zH => ?_)
     refine zT 0 rfl (by kernel_rfl) (fun _ _ _ => id) rfl (fun _ _ => by go_simp <;> with_reducible rfl) zH ?_
     simp only [Act.put, zA, zB, zC]
     refine zT 1 rfl (by kernel_rfl) (fun _ _ _ => id) rfl (fun _ _ => by go_simp <;> with_reducible rfl) zH ?_
     simp only [Act.put, zA, zB, zC]
     rw [IntWalk.i64_in ((i : Int) + 3) (by omega)]
     refine zT 2 rfl (by kernel_rfl) (fun _ _ _ => id) rfl (fun _ _ => by go_simp <;> with_reducible rfl) zH ?_
     simp only [Act.put, zA, zB, zC]
     refine zT 3 rfl (by kernel_rfl) (fun _ _ _ => id) rfl (fun _ _ => by go_simp <;> with_reducible rfl) zH ?_
     simp only [Act.put, zA, zB, zC]
     rw [IntWalk.i64_in ((i : Int) + 3) (by omega)]
     refine zT 4 rfl (by kernel_rfl) (fun _ _ _ => id) rfl (fun _ _ => by go_simp <;> with_reducible rfl) zH ?_
     simp only [Act.put, zA, zB, zC]
     refine zT 5 rfl (by kernel_rfl) (fun _ _ _ => id) rfl (fun _ _ => by go_simp <;> with_reducible rfl) zH ?_
     simp only [Act.put, zA, zB, zC]
     refine zT 6 rfl (by kernel_rfl) (fun _ _ _ => id) rfl (fun _ _ => by go_simp <;> with_reducible rfl) zH ?_
     simp only [Act.put, zA, zB, zC]
     rw [IntWalk.i64_in ((i : Int) + 3) (by omega)]
     refine zT 7 rfl (by kernel_rfl) (fun _ _ _ => id) rfl (fun _ _ => by go_simp <;> with_reducible rfl) zH ?_
     simp only [Act.put, zA, zB, zC]
     refine zT 8 rfl (by kernel_rfl) (fun _ _ _ => id) rfl (fun _ _ => by go_simp <;> with_reducible rfl) zH ?_
     simp only [Act.put, zA, zB, zC]
     rw [IntWalk.i64_in ((i : Int) + 3) (by omega)]
     refine zT 9 rfl (by kernel_rfl) (fun _ _ _ => id) rfl (fun _ _ => by have hi0 : ((i : Int) + 3) < 6 := (by omega); have hj0 : 0 ≤ ((i : Int) + 3) := (by omega); have hk0 : (((i : Int) + 3)).toNat = (i + 3) := (by omega); go_simp <;> with_reducible rfl) zH ?_
     simp only [Act.put, zA, zB, zC]
     refine zT 10 rfl (by kernel_rfl) (fun _ _ _ => id) rfl (fun _ _ => by have hi0 : ((i : Int) + 3) < 6 := (by omega); have hj0 : 0 ≤ ((i : Int) + 3) := (by omega); have hk0 : (((i : Int) + 3)).toNat = (i + 3) := (by omega); go_simp <;> with_reducible rfl) zH ?_
     simp only [Act.put, zA, zB, zC]
     refine zT 13 rfl (by kernel_rfl) (fun _ _ _ => id) rfl (fun _ _ => by have hi0 : ((i : Int) + 3) < 6 := (by omega); have hj0 : 0 ≤ ((i : Int) + 3) := (by omega); have hk0 : (((i : Int) + 3)).toNat = (i + 3) := (by omega); go_simp <;> with_reducible rfl) zH ?_
     simp only [Act.put, zA, zB, zC]
     refine zK 11 (by kernel_rfl) rfl (fun K hK => ?_)
     have c27_B8_0 : w20.cell? ⟨w15.heap.size, (i + 3) * 6 + (i + 3), none⟩ = some (.int .i64 ((updF s8.1 (i * 6 + i) r19.1) ((i + 3) * 6 + (i + 3)))) := row_c B8_20 ((i + 3) * 6 + (i + 3)) (by omega)
     go_simp
     clear zH
     refine hK.out _ _ (NearR.same B8_20.drew) (fun zH => ?_)
     clear hK K c27_B8_0
     refine zK 12 (by kernel_rfl) rfl (fun K hK => ?_)
     go_simp
     refine (rAdd_any b r19.2 ((updF s8.1 (i * 6 + i) r19.1) ((i + 3) * 6 + (i + 3))) 268435456 _ BF_20.drew).mono ?_
     rintro e w21 ⟨rfl, f21, k21⟩
     generalize e21 : addS r19.2 ((updF s8.1 (i * 6 + i) r19.1) ((i + 3) * 6 + (i + 3))) 268435456 = r21 at f21 ⊢
     have E21 : Hid _ := e21
     clear e21
     have K21 : Kept b w w21 := Kept.trans K20.drew k21
     have B0_21 := B0_20.drew.kept k21 (zG y1_BF)
     have B2_21 := B2_20.drew.kept k21 (zG y3_BF)
     have B3_21 := B3_20.drew.kept k21 (zG y4_BF)
     have B6_21 := B6_20.drew.kept k21 (zG y13_BF)
     have B8_21 := B8_20.drew.kept k21 (zG y15_BF)
     have B9_21 := B9_20.drew.kept k21 (zG y16_BF)
     have z21 := B9_21.lies
     clear zH
     refine hK.out _ _ (NearR.same B8_21) (fun zH => ?_)
     clear hK K K20 BF_20 B0_20 B2_20 B3_20 B6_20 B8_20 B9_20 k21
     refine zT 14 rfl (by kernel_rfl) (fun _ _ _ => id) rfl (fun _ _ => by have hi0 : ((i : Int) + 3) < 6 := (by omega); have hj0 : 0 ≤ ((i : Int) + 3) := (by omega); have hk0 : (((i : Int) + 3)).toNat = (i + 3) := (by omega); go_simp <;> with_reducible rfl) zH ?_
     simp only [Act.put, zA, zB, zC]
     refine zK 15 (by kernel_rfl) rfl (fun K hK => ?_)
     have c28_B8_0 : w21.cell? ⟨w15.heap.size, (i + 3) * 6 + (i + 3), none⟩ = some (.int .i64 ((updF s8.1 (i * 6 + i) r19.1) ((i + 3) * 6 + (i + 3)))) := row_c B8_21 ((i + 3) * 6 + (i + 3)) (by omega)
     have g28_B8_1 := row_f B8_21 ((i + 3) * 6 + (i + 3)) (by omega)
     go_simp
     clear zH
     refine hK.out _ _ (NearR.upd (row_put B8_21 ((i + 3) * 6 + (i + 3)) (by omega) r21.1)) (fun zH => ?_)
     clear hK K c28_B8_0 g28_B8_1
     refine wpAnyH_done (by kernel_rfl) ?_ _
     clear zH
     go_wp2_with fail
     have hs8 : Hid (fMeetS_l8 (r18.1, r18.2.2) (i + 1) = ((updF (updF s8.1 (i * 6 + i) r19.1) ((i + 3) * 6 + (i + 3)) r21.1), r21.2)) := by show _ = _; rw [fMeetS_l8_succ]; unfold fMeetS_l8s; simp only [El8.out, E19.out, E21.out]
     refine give_act (fun a_ ea_ => ?_)
     rw [hJ8.out]
     intro G_ hG_
     exact hG_ ((updF (updF s8.1 (i * 6 + i) r19.1) ((i + 3) * 6 + (i + 3)) r21.1), r21.2) (zS a_ 0) (zS a_ 20) (zS a_ 40) (zS a_ 60) (zS a_ 80) (zS a_ 100) (zS a_ 120) (zS a_ 140) (zS a_ 160) (zS a_ 180) (zS a_ 200) (zS a_ 220) (zS a_ 240) (zS a_ 260) (zS a_ 280) (zS a_ 300) (zS a_ 320) hs8 (by subst ea_; rfl) (K21.new _ _ (by omega) _) (f21.new w15.heap.size ((i + 3) * 6 + (i + 3)) (zL y15_BF) (.int .i64 r21.1)) (B0_21.new w15.heap.size ((i + 3) * 6 + (i + 3)) (zL y15_B0) (.int .i64 r21.1)) (B2_21.new w15.heap.size ((i + 3) * 6 + (i + 3)) (zL y15_B2) (.int .i64 r21.1)) (B3_21.new w15.heap.size ((i + 3) * 6 + (i + 3)) (zL y15_B3) (.int .i64 r21.1)) (B6_21.new w15.heap.size ((i + 3) * 6 + (i + 3)) (zL y15_B6) (.int .i64 r21.1)) (row_put B8_21 ((i + 3) * 6 + (i + 3)) (by omega) r21.1) (B9_21.new w15.heap.size ((i + 3) * 6 + (i + 3)) (zG y16_B8) (.int .i64 r21.1))
    ·intro a Wl8 hI R
     rw [hJ8.out] at hI
     refine hI _ ?_
     clear hI hJ8
     intro r22 A8 C8 D8 F8 G8 L8 M8 N8 O8 P8 Q8 R8 S8 T8 U8 Y8 Z8 E22 ea Kl8 BF_l8 B0_l8 B2_l8 B3_l8 B6_l8 B8_l8 B9_l8
     subst ea
     have zl8_BF := BF_l8.lies
     have zl8_B0 := B0_l8.lies
     have zl8_B2 := B2_l8.lies
     have zl8_B3 := B3_l8.lies
     have zl8_B6 := B6_l8.lies
     have zl8_B8 := B8_l8.lies
     have zl8_B9 := B9_l8.lies
     have c30_B2_0 : Wl8.cell? ⟨w.heap.size + 1 + 1, 0, none⟩ = some (.int .i64 ((updF (updF (updF (updF (updF (updF body 0 r3.1.1) 1 r3.1.2.1) 2 r3.1.2.2) 3 r6.1.1) 4 r6.1.2.1) 5 r6.1.2.2) 0)) := row_c B2_l8 0 (by omega)
     have c30_B2_1 : Wl8.cell? ⟨w.heap.size + 1 + 1, 1, none⟩ = some (.int .i64 ((updF (updF (updF (updF (updF (updF body 0 r3.1.1) 1 r3.1.2.1) 2 r3.1.2.2) 3 r6.1.1) 4 r6.1.2.1) 5 r6.1.2.2) 1)) := row_c B2_l8 1 (by omega)
     have c30_B2_2 : Wl8.cell? ⟨w.heap.size + 1 + 1, 2, none⟩ = some (.int .i64 ((updF (updF (updF (updF (updF (updF body 0 r3.1.1) 1 r3.1.2.1) 2 r3.1.2.2) 3 r6.1.1) 4 r6.1.2.1) 5 r6.1.2.2) 2)) := row_c B2_l8 2 (by omega)
     have c30_B2_3 : Wl8.cell? ⟨w.heap.size + 1 + 1, 3, none⟩ = some (.int .i64 ((updF (updF (updF (updF (updF (updF body 0 r3.1.1) 1 r3.1.2.1) 2 r3.1.2.2) 3 r6.1.1) 4 r6.1.2.1) 5 r6.1.2.2) 3)) := row_c B2_l8 3 (by omega)
     have c30_B2_4 : Wl8.cell? ⟨w.heap.size + 1 + 1, 4, none⟩ = some (.int .i64 ((updF (updF (updF (updF (updF (updF body 0 r3.1.1) 1 r3.1.2.1) 2 r3.1.2.2) 3 r6.1.1) 4 r6.1.2.1) 5 r6.1.2.2) 4)) := row_c B2_l8 4 (by omega)
     have c30_B2_5 : Wl8.cell? ⟨w.heap.size + 1 + 1, 5, none⟩ = some (.int .i64 ((updF (updF (updF (updF (updF (updF body 0 r3.1.1) 1 r3.1.2.1) 2 r3.1.2.2) 3 r6.1.1) 4 r6.1.2.1) 5 r6.1.2.2) 5)) := row_c B2_l8 5 (by omega)
     go_wp2_with fail
     refine (fpair_any (((updF (updF (updF (updF (updF (updF body 0 r3.1.1) 1 r3.1.2.1) 2 r3.1.2.2) 3 r6.1.1) 4 r6.1.2.1) 5 r6.1.2.2) 0), ((updF (updF (updF (updF (updF (updF body 0 r3.1.1) 1 r3.1.2.1) 2 r3.1.2.2) 3 r6.1.1) 4 r6.1.2.1) 5 r6.1.2.2) 1), ((updF (updF (updF (updF (updF (updF body 0 r3.1.1) 1 r3.1.2.1) 2 r3.1.2.2) 3 r6.1.1) 4 r6.1.2.1) 5 r6.1.2.2) 2)) (((updF (updF (updF (updF (updF (updF body 0 r3.1.1) 1 r3.1.2.1) 2 r3.1.2.2) 3 r6.1.1) 4 r6.1.2.1) 5 r6.1.2.2) 3), ((updF (updF (updF (updF (updF (updF body 0 r3.1.1) 1 r3.1.2.1) 2 r3.1.2.2) 3 r6.1.1) 4 r6.1.2.1) 5 r6.1.2.2) 4), ((updF (updF (updF (updF (updF (updF body 0 r3.1.1) 1 r3.1.2.1) 2 r3.1.2.2) 3 r6.1.1) 4 r6.1.2.1) 5 r6.1.2.2) 5)) _).mono ?_
     rintro e w23 ⟨rfl, k23⟩
     generalize e23 : fpairP (((updF (updF (updF (updF (updF (updF body 0 r3.1.1) 1 r3.1.2.1) 2 r3.1.2.2) 3 r6.1.1) 4 r6.1.2.1) 5 r6.1.2.2) 0), ((updF (updF (updF (updF (updF (updF body 0 r3.1.1) 1 r3.1.2.1) 2 r3.1.2.2) 3 r6.1.1) 4 r6.1.2.1) 5 r6.1.2.2) 1), ((updF (updF (updF (updF (updF (updF body 0 r3.1.1) 1 r3.1.2.1) 2 r3.1.2.2) 3 r6.1.1) 4 r6.1.2.1) 5 r6.1.2.2) 2)) (((updF (updF (updF (updF (updF (updF body 0 r3.1.1) 1 r3.1.2.1) 2 r3.1.2.2) 3 r6.1.1) 4 r6.1.2.1) 5 r6.1.2.2) 3), ((updF (updF (updF (updF (updF (updF body 0 r3.1.1) 1 r3.1.2.1) 2 r3.1.2.2) 3 r6.1.1) 4 r6.1.2.1) 5 r6.1.2.2) 4), ((updF (updF (updF (updF (updF (updF body 0 r3.1.1) 1 r3.1.2.1) 2 r3.1.2.2) 3 r6.1.1) 4 r6.1.2.1) 5 r6.1.2.2) 5)) = r23
     have E23 : Hid _ := e23
     clear e23
     try dsimp only
     have K23 : Kept b w w23 := Kept.trans Kl8 (Kept.of_below k23)
     have BF_23 := BF_l8.below k23
     have B0_23 := B0_l8.below k23
     have B2_23 := B2_l8.below k23
     have B3_23 := B3_l8.below k23
     have B6_23 := B6_l8.below k23
     have B8_23 := B8_l8.below k23
     have B9_23 := B9_l8.below k23
     have z23 := B9_23.lies
     clear c30_B2_0 c30_B2_1 c30_B2_2 c30_B2_3 c30_B2_4 c30_B2_5 BF_l8 B0_l8 B2_l8 B3_l8 B6_l8 B8_l8 B9_l8 k23
     have y17_BF := BF_23.lies
     have y17_B0 := B0_23.lies
     have y17_B2 := B2_23.lies
     have y17_B3 := B3_23.lies
     have y17_B6 := B6_23.lies
     have y17_B8 := B8_23.lies
     have y17_B9 := B9_23.lies
     go_wp2_with fail
     obtain ⟨J7, hJ7⟩ : ∃ J : Nat → Act → World → Prop, Hid (J = fun i a Wl7 => ∀ G_ : Prop, (∀ (s7 : (Nat → Int) × Bool) (A7 C7 D7 F7 G7 L7 M7 N7 O7 P7 Q7 R7 S7 T7 U7 Y7 Z7 : Nat → Value), Hid (fMeetS_l7 r13 ((fun i_ => if i_ = 0 then r23.1 else if i_ = 1 then r23.2.1 else if i_ = 2 then r23.2.2.1 else if i_ = 3 then r23.2.2.2.1 else if i_ = 4 then r23.2.2.2.2.1 else r23.2.2.2.2.2), r22.2) i = s7) → a = { tmps := #[.pointer (some ⟨b, 0, none⟩), A7 1, A7 2, A7 3, A7 4, .pointer (some ⟨w.heap.size, 0, none⟩), A7 6, A7 7, .pointer (some ⟨w.heap.size + 1 + 1 + 1, 0, none⟩), A7 9, A7 10, A7 11, A7 12, A7 13, A7 14, A7 15, .pointer (some ⟨Wl12.heap.size, 0, none⟩), A7 17, A7 18, .pointer (some ⟨w15.heap.size, 0, none⟩), .pointer (some ⟨w16.heap.size, 0, none⟩), C7 1, C7 2, C7 3, .pointer (some ⟨w23.heap.size, 0, none⟩), .int .i64 (i : Int), C7 6, C7 7, C7 8, C7 9, C7 10, C7 11, C7 12, C7 13, C7 14, C7 15, C7 16, C7 17, C7 18, C7 19, D7 0, D7 1, D7 2, D7 3, D7 4, D7 5, D7 6, D7 7, D7 8, D7 9, D7 10, D7 11, D7 12, D7 13, D7 14, D7 15, D7 16, D7 17, D7 18, D7 19, F7 0, F7 1, F7 2, F7 3, F7 4, F7 5, F7 6, F7 7, F7 8, F7 9, F7 10, F7 11, F7 12, F7 13, F7 14, F7 15, F7 16, F7 17, F7 18, F7 19, G7 0, G7 1, G7 2, G7 3, G7 4, G7 5, G7 6, G7 7, G7 8, G7 9, G7 10, G7 11, G7 12, G7 13, G7 14, G7 15, G7 16, G7 17, G7 18, G7 19, L7 0, L7 1, L7 2, L7 3, L7 4, L7 5, L7 6, L7 7, L7 8, L7 9, L7 10, L7 11, L7 12, L7 13, L7 14, L7 15, L7 16, L7 17, L7 18, L7 19, M7 0, M7 1, M7 2, M7 3, M7 4, M7 5, M7 6, M7 7, M7 8, M7 9, M7 10, M7 11, M7 12, M7 13, M7 14, M7 15, M7 16, M7 17, M7 18, M7 19, N7 0, N7 1, N7 2, N7 3, N7 4, N7 5, N7 6, N7 7, N7 8, N7 9, N7 10, N7 11, N7 12, N7 13, N7 14, N7 15, N7 16, N7 17, N7 18, N7 19, O7 0, O7 1, O7 2, O7 3, O7 4, O7 5, O7 6, O7 7, O7 8, O7 9, O7 10, O7 11, O7 12, O7 13, O7 14, O7 15, O7 16, O7 17, O7 18, O7 19, P7 0, P7 1, P7 2, P7 3, P7 4, P7 5, P7 6, P7 7, P7 8, P7 9, P7 10, P7 11, P7 12, P7 13, P7 14, P7 15, P7 16, P7 17, P7 18, P7 19, Q7 0, Q7 1, Q7 2, Q7 3, Q7 4, Q7 5, Q7 6, Q7 7, Q7 8, Q7 9, Q7 10, Q7 11, Q7 12, Q7 13, Q7 14, Q7 15, Q7 16, Q7 17, Q7 18, Q7 19, R7 0, R7 1, R7 2, R7 3, R7 4, R7 5, R7 6, R7 7, R7 8, R7 9, R7 10, R7 11, R7 12, R7 13, R7 14, R7 15, R7 16, R7 17, R7 18, R7 19, S7 0, S7 1, S7 2, S7 3, S7 4, S7 5, S7 6, S7 7, S7 8, S7 9, S7 10, S7 11, S7 12, S7 13, S7 14, S7 15, S7 16, S7 17, S7 18, S7 19, T7 0, T7 1, T7 2, T7 3, T7 4, T7 5, T7 6, T7 7, T7 8, T7 9, T7 10, T7 11, T7 12, T7 13, T7 14, T7 15, T7 16, T7 17, T7 18, T7 19, U7 0, U7 1, U7 2, U7 3, U7 4, U7 5, U7 6, U7 7, U7 8, U7 9, U7 10, U7 11, U7 12, U7 13, U7 14, U7 15, U7 16, U7 17, U7 18, U7 19, Y7 0, Y7 1, Y7 2, Y7 3, Y7 4, Y7 5, Y7 6, Y7 7, Y7 8, Y7 9, Y7 10, Y7 11, Y7 12, Y7 13, Y7 14, Y7 15, Y7 16, Y7 17, Y7 18, Y7 19, Z7 0, Z7 1], defers := [] } → Kept b w Wl7 → Fl b s7.2 Wl7 → Arr w.heap.size (row 43 g) Wl7 → Arr (w.heap.size + 1 + 1 + 1) (row 43 (fun _ => 0)) Wl7 → Arr Wl12.heap.size (row 6 r13.1) Wl7 → Arr w15.heap.size (row 36 r22.1) Wl7 → Arr w16.heap.size (row 36 r18.2.1) Wl7 → Arr w23.heap.size (row 6 s7.1) Wl7 → G_) → G_) := ⟨_, rfl⟩
     refine rounds_up J7 6 ?_ ?_ ?_
     ·refine give_act (fun a_ ea_ => ?_)
      rw [hJ7.out]
      intro G_ hG_
      exact hG_ ((fun i_ => if i_ = 0 then r23.1 else if i_ = 1 then r23.2.1 else if i_ = 2 then r23.2.2.1 else if i_ = 3 then r23.2.2.2.1 else if i_ = 4 then r23.2.2.2.2.1 else r23.2.2.2.2.2), r22.2) (zS a_ 0) (zS a_ 20) (zS a_ 40) (zS a_ 60) (zS a_ 80) (zS a_ 100) (zS a_ 120) (zS a_ 140) (zS a_ 160) (zS a_ 180) (zS a_ 200) (zS a_ 220) (zS a_ 240) (zS a_ 260) (zS a_ 280) (zS a_ 300) (zS a_ 320) rfl (by subst ea_; rfl) (K23.al _) (BF_23.alloc _) (B0_23.alloc _) (B3_23.alloc _) (B6_23.alloc _) (B8_23.alloc _) (B9_23.alloc _) (Arr_at _ _ (row 6 (fun i_ => if i_ = 0 then r23.1 else if i_ = 1 then r23.2.1 else if i_ = 2 then r23.2.2.1 else if i_ = 3 then r23.2.2.2.1 else if i_ = 4 then r23.2.2.2.2.1 else r23.2.2.2.2.2)) _ (by simp))
     ·intro i a Wl7 hi hI R hR
      rw [hJ7.out] at hI
      refine hI _ ?_
      clear hI
      intro s7 A7 C7 D7 F7 G7 L7 M7 N7 O7 P7 Q7 R7 S7 T7 U7 Y7 Z7 El7 ea Kl7 BF_l7 B0_l7 B3_l7 B6_l7 B8_l7 B9_l7 B10_l7
      subst ea
      have zl7_BF := BF_l7.lies
      have zl7_B0 := B0_l7.lies
      have zl7_B3 := B3_l7.lies
      have zl7_B6 := B6_l7.lies
      have zl7_B8 := B8_l7.lies
      have zl7_B9 := B9_l7.lies
      have zl7_B10 := B10_l7.lies
      go_wp2_with fail
      refine wp_region_held_drew (S := fun w' => NearR w23.heap.size 6 s7.1 i w' ∧ Arr Wl12.heap.size (row 6 r13.1) w') (by kernel_rfl) ⟨(NearR.same B10_l7.drew), B6_l7.drew⟩ (fun zH => ?_)
      refine zT 0 rfl (by kernel_rfl) (fun _ _ _ => id) rfl (fun _ _ => by go_simp <;> with_reducible rfl) zH ?_
      simp only [Act.put, zA, zB, zC]
      refine zT 1 rfl (by kernel_rfl) (fun _ _ _ => id) rfl (fun _ _ => by go_simp <;> with_reducible rfl) zH ?_
      simp only [Act.put, zA, zB, zC]
      refine zT 2 rfl (by kernel_rfl) (fun _ _ _ => id) rfl (fun _ _ => by go_simp <;> with_reducible rfl) zH ?_
      simp only [Act.put, zA, zB, zC]
      refine zT 3 rfl (by kernel_rfl) (fun _ _ _ => id) rfl (fun _ _ => by have hi0 : (i : Int) < 6 := (by omega); go_simp <;> with_reducible rfl) zH ?_
      simp only [Act.put, zA, zB, zC]
      refine zT 5 rfl (by kernel_rfl) (fun _ _ _ => id) rfl (fun _ _ => by go_simp <;> with_reducible rfl) zH ?_
      simp only [Act.put, zA, zB, zC]
      refine zT 6 rfl (by kernel_rfl) (fun _ _ _ => id) rfl (fun _ _ => by have hi0 : (i : Int) < 6 := (by omega); go_simp <;> with_reducible rfl) zH ?_
      simp only [Act.put, zA, zB, zC]
      refine zT 7 rfl (by kernel_rfl) (fun _ _ _ => id) rfl (fun wx hS => by have hc0 : wx.cell? ⟨Wl12.heap.size, i, none⟩ = some (.int .i64 (r13.1 i)) := row_c hS.2 i (by omega); go_simp <;> with_reducible rfl) zH ?_
      simp only [Act.put, zA, zB, zC]
      refine zK 4 (by kernel_rfl) rfl (fun K hK => ?_)
      have c33_B10_0 : Wl7.cell? ⟨w23.heap.size, i, none⟩ = some (.int .i64 (s7.1 i)) := row_c B10_l7 i (by omega)
      go_simp
      clear zH
      refine hK.out _ _ ⟨(NearR.same B10_l7.drew), B6_l7.drew⟩ (fun zH => ?_)
      clear hK K c33_B10_0
      refine zK 8 (by kernel_rfl) rfl (fun K hK => ?_)
      go_simp
      refine (rSub_any b s7.2 (s7.1 i) (r13.1 i) _ BF_l7.drew).mono ?_
      rintro e w24 ⟨rfl, f24, k24⟩
      generalize e24 : subS s7.2 (s7.1 i) (r13.1 i) = r24 at f24 ⊢
      have E24 : Hid _ := e24
      clear e24
      have K24 : Kept b w w24 := Kept.trans Kl7.drew k24
      have B0_24 := B0_l7.drew.kept k24 (zG y1_BF)
      have B3_24 := B3_l7.drew.kept k24 (zG y4_BF)
      have B6_24 := B6_l7.drew.kept k24 (zG y13_BF)
      have B8_24 := B8_l7.drew.kept k24 (zG y15_BF)
      have B9_24 := B9_l7.drew.kept k24 (zG y16_BF)
      have B10_24 := B10_l7.drew.kept k24 (zG y17_BF)
      have z24 := B10_24.lies
      clear zH
      refine hK.out _ _ ⟨(NearR.same B10_24), B6_24⟩ (fun zH => ?_)
      clear hK K BF_l7 B0_l7 B3_l7 B6_l7 B8_l7 B9_l7 B10_l7 k24
      refine zT 9 rfl (by kernel_rfl) (fun _ _ _ => id) rfl (fun _ _ => by have hi0 : (i : Int) < 6 := (by omega); go_simp <;> with_reducible rfl) zH ?_
      simp only [Act.put, zA, zB, zC]
      refine zK 10 (by kernel_rfl) rfl (fun K hK => ?_)
      have c34_B10_0 : w24.cell? ⟨w23.heap.size, i, none⟩ = some (.int .i64 (s7.1 i)) := row_c B10_24 i (by omega)
      have g34_B10_1 := row_f B10_24 i (by omega)
      go_simp
      clear zH
      refine hK.out _ _ ⟨(NearR.upd (row_put B10_24 i (by omega) r24.1)), (B6_24.new w23.heap.size i (zL y17_B6) (.int .i64 r24.1))⟩ (fun zH => ?_)
      clear hK K c34_B10_0 g34_B10_1
      refine wpAnyH_done (by kernel_rfl) ?_ _
      clear zH
      go_wp2_with fail
      have hs7 : Hid (fMeetS_l7 r13 ((fun i_ => if i_ = 0 then r23.1 else if i_ = 1 then r23.2.1 else if i_ = 2 then r23.2.2.1 else if i_ = 3 then r23.2.2.2.1 else if i_ = 4 then r23.2.2.2.2.1 else r23.2.2.2.2.2), r22.2) (i + 1) = ((updF s7.1 i r24.1), r24.2)) := by show _ = _; rw [fMeetS_l7_succ]; unfold fMeetS_l7s; simp only [El7.out, E24.out]
      refine give_act (fun a_ ea_ => ?_)
      rw [hJ7.out]
      intro G_ hG_
      exact hG_ ((updF s7.1 i r24.1), r24.2) (zS a_ 0) (zS a_ 20) (zS a_ 40) (zS a_ 60) (zS a_ 80) (zS a_ 100) (zS a_ 120) (zS a_ 140) (zS a_ 160) (zS a_ 180) (zS a_ 200) (zS a_ 220) (zS a_ 240) (zS a_ 260) (zS a_ 280) (zS a_ 300) (zS a_ 320) hs7 (by subst ea_; rfl) (K24.new _ _ (by omega) _) (f24.new w23.heap.size i (zL y17_BF) (.int .i64 r24.1)) (B0_24.new w23.heap.size i (zL y17_B0) (.int .i64 r24.1)) (B3_24.new w23.heap.size i (zL y17_B3) (.int .i64 r24.1)) (B6_24.new w23.heap.size i (zL y17_B6) (.int .i64 r24.1)) (B8_24.new w23.heap.size i (zL y17_B8) (.int .i64 r24.1)) (B9_24.new w23.heap.size i (zL y17_B9) (.int .i64 r24.1)) (row_put B10_24 i (by omega) r24.1)
     ·intro a Wl7 hI R
      rw [hJ7.out] at hI
      refine hI _ ?_
      clear hI hJ7
      intro r25 A7 C7 D7 F7 G7 L7 M7 N7 O7 P7 Q7 R7 S7 T7 U7 Y7 Z7 E25 ea Kl7 BF_l7 B0_l7 B3_l7 B6_l7 B8_l7 B9_l7 B10_l7
      subst ea
      have zl7_BF := BF_l7.lies
      have zl7_B0 := B0_l7.lies
      have zl7_B3 := B3_l7.lies
      have zl7_B6 := B6_l7.lies
      have zl7_B8 := B8_l7.lies
      have zl7_B9 := B9_l7.lies
      have zl7_B10 := B10_l7.lies
      go_wp2_with (refine row_load rfl rfl rfl B8_l7 (by kernel_rfl) (by rw [row_len]; kernel_rfl) ?_)
      refine (zRoot6_any b r25.2 r22.1 _ BF_l7).mono ?_
      rintro e w26 ⟨rfl, f26, k26⟩
      generalize e26 : zRoot6 r25.2 r22.1 = r26 at f26 ⊢
      have E26 : Hid _ := e26
      clear e26
      try dsimp only
      have K26 : Kept b w w26 := Kept.trans Kl7 k26
      have B0_26 := B0_l7.kept k26 (zG y1_BF)
      have B3_26 := B3_l7.kept k26 (zG y4_BF)
      have B8_26 := B8_l7.kept k26 (zG y15_BF)
      have B9_26 := B9_l7.kept k26 (zG y16_BF)
      have B10_26 := B10_l7.kept k26 (zG y17_BF)
      have z26 := B10_26.lies
      clear BF_l7 B0_l7 B3_l7 B8_l7 B9_l7 B10_l7 k26
      have y18_BF := f26.lies
      have y18_B0 := B0_26.lies
      have y18_B3 := B3_26.lies
      have y18_B8 := B8_26.lies
      have y18_B9 := B9_26.lies
      have y18_B10 := B10_26.lies
      go_wp2_with (refine store_stop rfl (by kernel_rfl) ?_)
      refine Stop.mk (store_row (l' := row 36 r26.1) rfl rfl rfl rfl (Arr_at _ _ (row 36 (fun _ => 0)) _ (by simp)) (by simp only [row_len]) (by rw [row_len]; kernel_rfl) (row_one _ _) ?_)
      intro w27 B11_27 o27
      have K27 : Kept b w w27 := Kept.off (K26.al _) o27 (by omega)
      have BF_27 := (f26.alloc _).off o27 (zL y18_BF)
      have B0_27 := (B0_26.alloc _).off o27 (zL y18_B0)
      have B3_27 := (B3_26.alloc _).off o27 (zL y18_B3)
      have B8_27 := (B8_26.alloc _).off o27 (zL y18_B8)
      have B9_27 := (B9_26.alloc _).off o27 (zL y18_B9)
      have B10_27 := (B10_26.alloc _).off o27 (zL y18_B10)
      have z27_B11 := B11_27.lies
      have z27_BF := BF_27.lies
      have z27_B0 := B0_27.lies
      have z27_B3 := B3_27.lies
      have z27_B8 := B8_27.lies
      have z27_B9 := B9_27.lies
      have z27_B10 := B10_27.lies
      clear K26 f26 B0_26 B3_26 B8_26 B9_26 B10_26 o27
      go_wp2_with (first | (refine row_load rfl rfl rfl B11_27 (by kernel_rfl) (by rw [row_len]; kernel_rfl) ?_) | (refine row_load rfl rfl rfl B10_27 (by kernel_rfl) (by rw [row_len]; kernel_rfl) ?_))
      refine (zSolve6_any b r26.2 r26.1 r25.1 _ BF_27).mono ?_
      rintro e w28 ⟨rfl, f28, k28⟩
      generalize e28 : zSolve6 r26.2 r26.1 r25.1 = r28 at f28 ⊢
      have E28 : Hid _ := e28
      clear e28
      try dsimp only
      have K28 := Kept.trans K27 k28
      have B0_28 := B0_27.kept k28 (zG y1_BF)
      have B3_28 := B3_27.kept k28 (zG y4_BF)
      have B9_28 := B9_27.kept k28 (zG y16_BF)
      have B10_28 := B10_27.kept k28 (zG y17_BF)
      have B11_28 := B11_27.kept k28 (zG y18_BF)
      have z28 := B11_28.lies
      clear K27 BF_27 B0_27 B3_27 B9_27 B10_27 B11_27 k28
      have y19_BF := f28.lies
      have y19_B0 := B0_28.lies
      have y19_B3 := B3_28.lies
      have y19_B9 := B9_28.lies
      have y19_B10 := B10_28.lies
      have y19_B11 := B11_28.lies
      go_wp2_with (refine store_stop rfl (by kernel_rfl) ?_)
      refine Stop.mk (store_row (l' := row 6 r28.1) rfl rfl rfl rfl (Arr_at _ _ [.int .i64 0, .int .i64 0, .int .i64 0, .int .i64 0, .int .i64 0, .int .i64 0] _ (by simp)) (by rw [row_len]; rfl) (by rw [row_len]; kernel_rfl) (row_one _ _) ?_)
      intro w29 B12_29 o29
      have K29 : Kept b w w29 := Kept.off (K28.al _) o29 (by omega)
      have BF_29 := (f28.alloc _).off o29 (zL y19_BF)
      have B0_29 := (B0_28.alloc _).off o29 (zL y19_B0)
      have B3_29 := (B3_28.alloc _).off o29 (zL y19_B3)
      have B9_29 := (B9_28.alloc _).off o29 (zL y19_B9)
      have B10_29 := (B10_28.alloc _).off o29 (zL y19_B10)
      have B11_29 := (B11_28.alloc _).off o29 (zL y19_B11)
      have z29_B12 := B12_29.lies
      have z29_BF := BF_29.lies
      have z29_B0 := B0_29.lies
      have z29_B3 := B3_29.lies
      have z29_B9 := B9_29.lies
      have z29_B10 := B10_29.lies
      have z29_B11 := B11_29.lies
      clear K28 f28 B0_28 B3_28 B9_28 B10_28 B11_28 o29
      go_wp2_with fail
      obtain ⟨J6, hJ6⟩ : ∃ J : Nat → Act → World → Prop, Hid (J = fun i a Wl6 => ∀ G_ : Prop, (∀ (s6 : Int × Bool) (A6 C6 D6 F6 G6 L6 M6 N6 O6 P6 Q6 R6 S6 T6 U6 Y6 Z6 : Nat → Value), Hid (fMeetS_l6 r25 r28 (0, r28.2) i = s6) → a = { tmps := #[.pointer (some ⟨b, 0, none⟩), A6 1, A6 2, A6 3, A6 4, .pointer (some ⟨w.heap.size, 0, none⟩), A6 6, A6 7, .pointer (some ⟨w.heap.size + 1 + 1 + 1, 0, none⟩), A6 9, A6 10, A6 11, A6 12, A6 13, A6 14, A6 15, A6 16, A6 17, A6 18, A6 19, .pointer (some ⟨w16.heap.size, 0, none⟩), C6 1, C6 2, C6 3, .pointer (some ⟨w23.heap.size, 0, none⟩), C6 5, .pointer (some ⟨w26.heap.size, 0, none⟩), .pointer (some ⟨w28.heap.size, 0, none⟩), .int .i64 s6.1, .int .i64 (i : Int), C6 10, C6 11, C6 12, C6 13, C6 14, C6 15, C6 16, C6 17, C6 18, C6 19, D6 0, D6 1, D6 2, D6 3, D6 4, D6 5, D6 6, D6 7, D6 8, D6 9, D6 10, D6 11, D6 12, D6 13, D6 14, D6 15, D6 16, D6 17, D6 18, D6 19, F6 0, F6 1, F6 2, F6 3, F6 4, F6 5, F6 6, F6 7, F6 8, F6 9, F6 10, F6 11, F6 12, F6 13, F6 14, F6 15, F6 16, F6 17, F6 18, F6 19, G6 0, G6 1, G6 2, G6 3, G6 4, G6 5, G6 6, G6 7, G6 8, G6 9, G6 10, G6 11, G6 12, G6 13, G6 14, G6 15, G6 16, G6 17, G6 18, G6 19, L6 0, L6 1, L6 2, L6 3, L6 4, L6 5, L6 6, L6 7, L6 8, L6 9, L6 10, L6 11, L6 12, L6 13, L6 14, L6 15, L6 16, L6 17, L6 18, L6 19, M6 0, M6 1, M6 2, M6 3, M6 4, M6 5, M6 6, M6 7, M6 8, M6 9, M6 10, M6 11, M6 12, M6 13, M6 14, M6 15, M6 16, M6 17, M6 18, M6 19, N6 0, N6 1, N6 2, N6 3, N6 4, N6 5, N6 6, N6 7, N6 8, N6 9, N6 10, N6 11, N6 12, N6 13, N6 14, N6 15, N6 16, N6 17, N6 18, N6 19, O6 0, O6 1, O6 2, O6 3, O6 4, O6 5, O6 6, O6 7, O6 8, O6 9, O6 10, O6 11, O6 12, O6 13, O6 14, O6 15, O6 16, O6 17, O6 18, O6 19, P6 0, P6 1, P6 2, P6 3, P6 4, P6 5, P6 6, P6 7, P6 8, P6 9, P6 10, P6 11, P6 12, P6 13, P6 14, P6 15, P6 16, P6 17, P6 18, P6 19, Q6 0, Q6 1, Q6 2, Q6 3, Q6 4, Q6 5, Q6 6, Q6 7, Q6 8, Q6 9, Q6 10, Q6 11, Q6 12, Q6 13, Q6 14, Q6 15, Q6 16, Q6 17, Q6 18, Q6 19, R6 0, R6 1, R6 2, R6 3, R6 4, R6 5, R6 6, R6 7, R6 8, R6 9, R6 10, R6 11, R6 12, R6 13, R6 14, R6 15, R6 16, R6 17, R6 18, R6 19, S6 0, S6 1, S6 2, S6 3, S6 4, S6 5, S6 6, S6 7, S6 8, S6 9, S6 10, S6 11, S6 12, S6 13, S6 14, S6 15, S6 16, S6 17, S6 18, S6 19, T6 0, T6 1, T6 2, T6 3, T6 4, T6 5, T6 6, T6 7, T6 8, T6 9, T6 10, T6 11, T6 12, T6 13, T6 14, T6 15, T6 16, T6 17, T6 18, T6 19, U6 0, U6 1, U6 2, U6 3, U6 4, U6 5, U6 6, U6 7, U6 8, U6 9, U6 10, U6 11, U6 12, U6 13, U6 14, U6 15, U6 16, U6 17, U6 18, U6 19, Y6 0, Y6 1, Y6 2, Y6 3, Y6 4, Y6 5, Y6 6, Y6 7, Y6 8, Y6 9, Y6 10, Y6 11, Y6 12, Y6 13, Y6 14, Y6 15, Y6 16, Y6 17, Y6 18, Y6 19, Z6 0, Z6 1], defers := [] } → Kept b w Wl6 → Fl b s6.2 Wl6 → Arr w.heap.size (row 43 g) Wl6 → Arr (w.heap.size + 1 + 1 + 1) (row 43 (fun _ => 0)) Wl6 → Arr w16.heap.size (row 36 r18.2.1) Wl6 → Arr w23.heap.size (row 6 r25.1) Wl6 → Arr w26.heap.size (row 36 r26.1) Wl6 → Arr w28.heap.size (row 6 r28.1) Wl6 → G_) → G_) := ⟨_, rfl⟩
      refine rounds_up J6 6 ?_ ?_ ?_
      ·refine give_act (fun a_ ea_ => ?_)
       rw [hJ6.out]
       intro G_ hG_
       exact hG_ (0, r28.2) (zS a_ 0) (zS a_ 20) (zS a_ 40) (zS a_ 60) (zS a_ 80) (zS a_ 100) (zS a_ 120) (zS a_ 140) (zS a_ 160) (zS a_ 180) (zS a_ 200) (zS a_ 220) (zS a_ 240) (zS a_ 260) (zS a_ 280) (zS a_ 300) (zS a_ 320) rfl (by subst ea_; rfl) K29 BF_29 B0_29 B3_29 B9_29 B10_29 B11_29 B12_29
      ·intro i a Wl6 hi hI R hR
       rw [hJ6.out] at hI
       refine hI _ ?_
       clear hI
       intro s6 A6 C6 D6 F6 G6 L6 M6 N6 O6 P6 Q6 R6 S6 T6 U6 Y6 Z6 El6 ea Kl6 BF_l6 B0_l6 B3_l6 B9_l6 B10_l6 B11_l6 B12_l6
       subst ea
       have zl6_BF := BF_l6.lies
       have zl6_B0 := B0_l6.lies
       have zl6_B3 := B3_l6.lies
       have zl6_B9 := B9_l6.lies
       have zl6_B10 := B10_l6.lies
       have zl6_B11 := B11_l6.lies
       have zl6_B12 := B12_l6.lies
       go_wp2_with fail
       refine wp_region_held_drew (S := fun w' => Arr w23.heap.size (row 6 r25.1) w' ∧ Arr w28.heap.size (row 6 r28.1) w') (by kernel_rfl) ⟨B10_l6.drew, B12_l6.drew⟩ (fun zH => ?_)
       refine zT 0 rfl (by kernel_rfl) (fun _ _ _ => id) rfl (fun _ _ => by go_simp <;> with_reducible rfl) zH ?_
       simp only [Act.put, zA, zB, zC]
       refine zT 1 rfl (by kernel_rfl) (fun _ _ _ => id) rfl (fun _ _ => by go_simp <;> with_reducible rfl) zH ?_
       simp only [Act.put, zA, zB, zC]
       refine zT 2 rfl (by kernel_rfl) (fun _ _ _ => id) rfl (fun _ _ => by go_simp <;> with_reducible rfl) zH ?_
       simp only [Act.put, zA, zB, zC]
       refine zT 3 rfl (by kernel_rfl) (fun _ _ _ => id) rfl (fun _ _ => by go_simp <;> with_reducible rfl) zH ?_
       simp only [Act.put, zA, zB, zC]
       refine zT 4 rfl (by kernel_rfl) (fun _ _ _ => id) rfl (fun _ _ => by have hi0 : (i : Int) < 6 := (by omega); go_simp <;> with_reducible rfl) zH ?_
       simp only [Act.put, zA, zB, zC]
       refine zT 5 rfl (by kernel_rfl) (fun _ _ _ => id) rfl (fun wx hS => by have hc0 : wx.cell? ⟨w23.heap.size, i, none⟩ = some (.int .i64 (r25.1 i)) := row_c hS.1 i (by omega); go_simp <;> with_reducible rfl) zH ?_
       simp only [Act.put, zA, zB, zC]
       refine zT 6 rfl (by kernel_rfl) (fun _ _ _ => id) rfl (fun _ _ => by go_simp <;> with_reducible rfl) zH ?_
       simp only [Act.put, zA, zB, zC]
       refine zT 7 rfl (by kernel_rfl) (fun _ _ _ => id) rfl (fun _ _ => by have hi0 : (i : Int) < 6 := (by omega); go_simp <;> with_reducible rfl) zH ?_
       simp only [Act.put, zA, zB, zC]
       refine zT 8 rfl (by kernel_rfl) (fun _ _ _ => id) rfl (fun wx hS => by have hc0 : wx.cell? ⟨w28.heap.size, i, none⟩ = some (.int .i64 (r28.1 i)) := row_c hS.2 i (by omega); go_simp <;> with_reducible rfl) zH ?_
       simp only [Act.put, zA, zB, zC]
       refine zK 9 (by kernel_rfl) rfl (fun K hK => ?_)
       go_simp
       refine (rMul_any b s6.2 (r25.1 i) (r28.1 i) _ BF_l6.drew).mono ?_
       rintro e w30 ⟨rfl, f30, k30⟩
       generalize e30 : mulS s6.2 (r25.1 i) (r28.1 i) = r30 at f30 ⊢
       have E30 : Hid _ := e30
       clear e30
       have K30 : Kept b w w30 := Kept.trans Kl6.drew k30
       have B0_30 := B0_l6.drew.kept k30 (zG y1_BF)
       have B3_30 := B3_l6.drew.kept k30 (zG y4_BF)
       have B9_30 := B9_l6.drew.kept k30 (zG y16_BF)
       have B10_30 := B10_l6.drew.kept k30 (zG y17_BF)
       have B11_30 := B11_l6.drew.kept k30 (zG y18_BF)
       have B12_30 := B12_l6.drew.kept k30 (zG y19_BF)
       have z30 := B12_30.lies
       clear zH
       refine hK.out _ _ ⟨B10_30, B12_30⟩ (fun zH => ?_)
       clear hK K BF_l6 B0_l6 B3_l6 B9_l6 B10_l6 B11_l6 B12_l6 k30
       refine zK 10 (by kernel_rfl) rfl (fun K hK => ?_)
       go_simp
       refine (rAdd_any b r30.2 s6.1 r30.1 _ f30).mono ?_
       rintro e w31 ⟨rfl, f31, k31⟩
       generalize e31 : addS r30.2 s6.1 r30.1 = r31 at f31 ⊢
       have E31 : Hid _ := e31
       clear e31
       have K31 := Kept.trans K30 k31
       have B0_31 := B0_30.kept k31 (zG y1_BF)
       have B3_31 := B3_30.kept k31 (zG y4_BF)
       have B9_31 := B9_30.kept k31 (zG y16_BF)
       have B10_31 := B10_30.kept k31 (zG y17_BF)
       have B11_31 := B11_30.kept k31 (zG y18_BF)
       have B12_31 := B12_30.kept k31 (zG y19_BF)
       have z31 := B12_31.lies
       clear zH
       refine hK.out _ _ ⟨B10_31, B12_31⟩ (fun zH => ?_)
       clear hK K K30 f30 B0_30 B3_30 B9_30 B10_30 B11_30 B12_30 k31
       refine zT 11 rfl (by kernel_rfl) (fun _ _ _ => id) rfl (fun _ _ => by go_simp <;> with_reducible rfl) zH ?_
       simp only [Act.put, zA, zB, zC]
       refine wpAnyH_done (by kernel_rfl) ?_ _
       clear zH
       go_wp2_with fail
       have hs6 : Hid (fMeetS_l6 r25 r28 (0, r28.2) (i + 1) = (r31.1, r31.2)) := by show _ = _; rw [fMeetS_l6_succ]; unfold fMeetS_l6s; simp only [El6.out, E30.out, E31.out]
       refine give_act (fun a_ ea_ => ?_)
       rw [hJ6.out]
       intro G_ hG_
       exact hG_ (r31.1, r31.2) (zS a_ 0) (zS a_ 20) (zS a_ 40) (zS a_ 60) (zS a_ 80) (zS a_ 100) (zS a_ 120) (zS a_ 140) (zS a_ 160) (zS a_ 180) (zS a_ 200) (zS a_ 220) (zS a_ 240) (zS a_ 260) (zS a_ 280) (zS a_ 300) (zS a_ 320) hs6 (by subst ea_; rfl) K31 f31 B0_31 B3_31 B9_31 B10_31 B11_31 B12_31
      ·intro a Wl6 hI R
       rw [hJ6.out] at hI
       refine hI _ ?_
       clear hI hJ6
       intro r32 A6 C6 D6 F6 G6 L6 M6 N6 O6 P6 Q6 R6 S6 T6 U6 Y6 Z6 E32 ea Kl6 BF_l6 B0_l6 B3_l6 B9_l6 B10_l6 B11_l6 B12_l6
       subst ea
       have zl6_BF := BF_l6.lies
       have zl6_B0 := B0_l6.lies
       have zl6_B3 := B3_l6.lies
       have zl6_B9 := B9_l6.lies
       have zl6_B10 := B10_l6.lies
       have zl6_B11 := B11_l6.lies
       have zl6_B12 := B12_l6.lies
       rcases Bool.eq_false_or_eq_true r32.2 with hc1 | hc1
       ·have Hhc1 : Hid (r32.2 = true) := hc1
        have c43_BF := BF_l6.cell
        go_wp2_with (refine store_stop rfl (by kernel_rfl) ?_)
        clear c43_BF
        refine Stop.mk (store_row (l' := row 43 (fun _ => 0)) rfl rfl rfl rfl B3_l6 (by simp only [row_len]) (by rw [row_len]; kernel_rfl) (row_one _ _) ?_)
        intro w33 B3_33 o33
        have K33 : Kept b w w33 := Kept.off Kl6 o33 (by omega)
        have BF_33 := BF_l6.off o33 (zL y4_BF)
        have z33_B3 := B3_33.lies
        have z33_BF := BF_33.lies
        clear B3_l6 BF_l6 o33
        go_wp2_with (with_reducible refine post_stop ?_)
        refine Stop.mk ?_
        refine bodyPost_ret (v := .tuple #[.agg (row 43 (fun _ => 0)).toArray, .int .i64 0, .bool false]) (results_arr2t Tryz.results9 B3_33 rfl rfl rfl (by kernel_rfl) (by rw [row_len]; kernel_rfl)) rfl ?_
        have hs : fMeetS bad g sky body = (((fun _ => 0), 0, false), r32.2) := by unfold fMeetS; simp only [E2.out, E3.out, E5.out, E6.out, E8.out, E11.out, E13.out, E14.out, E18.out, E22.out, E23.out, E25.out, E26.out, E28.out, E32.out]; rw [if_pos Hhc1.out]
        rw [hs]
        exact ⟨rfl, BF_33, K33⟩
       ·have Hhc1 : Hid (r32.2 = false) := hc1
        by_cases hc2 : r32.1 > 32985348833280
        ·have Hhc2 : Hid (r32.1 > 32985348833280) := hc2
         have c43_BF := BF_l6.cell
         go_wp2_with (first | (refine row_load rfl rfl rfl B0_l6 (by kernel_rfl) (by rw [row_len]; kernel_rfl) ?_) | (refine store_stop rfl (by kernel_rfl) ?_))
         clear c43_BF
         refine Stop.mk (store_row (l' := row 43 g) rfl rfl rfl rfl B3_l6 (by simp only [row_len]) (by rw [row_len]; kernel_rfl) (row_one _ _) ?_)
         intro w33 B3_33 o33
         have K33 : Kept b w w33 := Kept.off Kl6 o33 (by omega)
         have BF_33 := BF_l6.off o33 (zL y4_BF)
         have B0_33 := B0_l6.off o33 (zL y4_B0)
         have z33_B3 := B3_33.lies
         have z33_BF := BF_33.lies
         have z33_B0 := B0_33.lies
         clear B3_l6 BF_l6 B0_l6 o33
         go_wp2_with (with_reducible refine post_stop ?_)
         refine Stop.mk ?_
         refine bodyPost_ret (v := .tuple #[.agg (row 43 g).toArray, .int .i64 r32.1, .bool false]) (results_arr2t Tryz.results9 B3_33 rfl rfl rfl (by kernel_rfl) (by rw [row_len]; kernel_rfl)) rfl ?_
         have hs : fMeetS bad g sky body = ((g, r32.1, false), r32.2) := by unfold fMeetS; simp only [E2.out, E3.out, E5.out, E6.out, E8.out, E11.out, E13.out, E14.out, E18.out, E22.out, E23.out, E25.out, E26.out, E28.out, E32.out]; rw [if_neg (by rw [Hhc1.out]; decide)]; rw [if_pos (by have := Hhc2.out; omega)]
         rw [hs]
         exact ⟨rfl, BF_33, K33⟩
        ·have Hhc2 : Hid (¬ r32.1 > 32985348833280) := hc2
         have y20_BF := BF_l6.lies
         have y20_B0 := B0_l6.lies
         have y20_B3 := B3_l6.lies
         have y20_B9 := B9_l6.lies
         have y20_B10 := B10_l6.lies
         have y20_B11 := B11_l6.lies
         have c43_BF := BF_l6.cell
         have l43_BF := BF_l6.lies
         go_wp2_with (refine store_stop rfl (by kernel_rfl) ?_)
         clear c43_BF l43_BF
         refine Stop.mk (store_row (l' := row 36 (fun _ => 0)) rfl rfl rfl rfl (Arr_at _ _ (row 36 (fun _ => 0)) _ (by simp)) (by simp only [row_len]) (by rw [row_len]; kernel_rfl) (row_one _ _) ?_)
         intro w33 B13_33 o33
         have K33 : Kept b w w33 := Kept.off (Kl6.al _) o33 (by omega)
         have BF_33 := (BF_l6.alloc _).off o33 (zL y20_BF)
         have B0_33 := (B0_l6.alloc _).off o33 (zL y20_B0)
         have B3_33 := (B3_l6.alloc _).off o33 (zL y20_B3)
         have B9_33 := (B9_l6.alloc _).off o33 (zL y20_B9)
         have B10_33 := (B10_l6.alloc _).off o33 (zL y20_B10)
         have B11_33 := (B11_l6.alloc _).off o33 (zL y20_B11)
         have z33_B13 := B13_33.lies
         have z33_BF := BF_33.lies
         have z33_B0 := B0_33.lies
         have z33_B3 := B3_33.lies
         have z33_B9 := B9_33.lies
         have z33_B10 := B10_33.lies
         have z33_B11 := B11_33.lies
         clear BF_l6 B0_l6 B3_l6 B9_l6 B10_l6 B11_l6 o33
         go_wp2_with fail
         obtain ⟨J5, hJ5⟩ : ∃ J : Nat → Act → World → Prop, Hid (J = fun i a Wl5 => ∀ G_ : Prop, (∀ (s5 : (Nat → Int) × Bool) (A5 C5 D5 F5 G5 L5 M5 N5 O5 P5 Q5 R5 S5 T5 U5 Y5 Z5 : Nat → Value), Hid (fMeetS_l5 r18 r26 ((fun _ => 0), r32.2) i = s5) → a = { tmps := #[.pointer (some ⟨b, 0, none⟩), A5 1, A5 2, A5 3, A5 4, .pointer (some ⟨w.heap.size, 0, none⟩), A5 6, A5 7, .pointer (some ⟨w.heap.size + 1 + 1 + 1, 0, none⟩), A5 9, A5 10, A5 11, A5 12, A5 13, A5 14, A5 15, A5 16, A5 17, A5 18, A5 19, .pointer (some ⟨w16.heap.size, 0, none⟩), C5 1, C5 2, C5 3, .pointer (some ⟨w23.heap.size, 0, none⟩), C5 5, .pointer (some ⟨w26.heap.size, 0, none⟩), C5 7, .int .i64 r32.1, C5 9, .pointer (some ⟨Wl6.heap.size, 0, none⟩), .int .i64 (i : Int), C5 12, C5 13, C5 14, C5 15, C5 16, C5 17, C5 18, C5 19, D5 0, D5 1, D5 2, D5 3, D5 4, D5 5, D5 6, D5 7, D5 8, D5 9, D5 10, D5 11, D5 12, D5 13, D5 14, D5 15, D5 16, D5 17, D5 18, D5 19, F5 0, F5 1, F5 2, F5 3, F5 4, F5 5, F5 6, F5 7, F5 8, F5 9, F5 10, F5 11, F5 12, F5 13, F5 14, F5 15, F5 16, F5 17, F5 18, F5 19, G5 0, G5 1, G5 2, G5 3, G5 4, G5 5, G5 6, G5 7, G5 8, G5 9, G5 10, G5 11, G5 12, G5 13, G5 14, G5 15, G5 16, G5 17, G5 18, G5 19, L5 0, L5 1, L5 2, L5 3, L5 4, L5 5, L5 6, L5 7, L5 8, L5 9, L5 10, L5 11, L5 12, L5 13, L5 14, L5 15, L5 16, L5 17, L5 18, L5 19, M5 0, M5 1, M5 2, M5 3, M5 4, M5 5, M5 6, M5 7, M5 8, M5 9, M5 10, M5 11, M5 12, M5 13, M5 14, M5 15, M5 16, M5 17, M5 18, M5 19, N5 0, N5 1, N5 2, N5 3, N5 4, N5 5, N5 6, N5 7, N5 8, N5 9, N5 10, N5 11, N5 12, N5 13, N5 14, N5 15, N5 16, N5 17, N5 18, N5 19, O5 0, O5 1, O5 2, O5 3, O5 4, O5 5, O5 6, O5 7, O5 8, O5 9, O5 10, O5 11, O5 12, O5 13, O5 14, O5 15, O5 16, O5 17, O5 18, O5 19, P5 0, P5 1, P5 2, P5 3, P5 4, P5 5, P5 6, P5 7, P5 8, P5 9, P5 10, P5 11, P5 12, P5 13, P5 14, P5 15, P5 16, P5 17, P5 18, P5 19, Q5 0, Q5 1, Q5 2, Q5 3, Q5 4, Q5 5, Q5 6, Q5 7, Q5 8, Q5 9, Q5 10, Q5 11, Q5 12, Q5 13, Q5 14, Q5 15, Q5 16, Q5 17, Q5 18, Q5 19, R5 0, R5 1, R5 2, R5 3, R5 4, R5 5, R5 6, R5 7, R5 8, R5 9, R5 10, R5 11, R5 12, R5 13, R5 14, R5 15, R5 16, R5 17, R5 18, R5 19, S5 0, S5 1, S5 2, S5 3, S5 4, S5 5, S5 6, S5 7, S5 8, S5 9, S5 10, S5 11, S5 12, S5 13, S5 14, S5 15, S5 16, S5 17, S5 18, S5 19, T5 0, T5 1, T5 2, T5 3, T5 4, T5 5, T5 6, T5 7, T5 8, T5 9, T5 10, T5 11, T5 12, T5 13, T5 14, T5 15, T5 16, T5 17, T5 18, T5 19, U5 0, U5 1, U5 2, U5 3, U5 4, U5 5, U5 6, U5 7, U5 8, U5 9, U5 10, U5 11, U5 12, U5 13, U5 14, U5 15, U5 16, U5 17, U5 18, U5 19, Y5 0, Y5 1, Y5 2, Y5 3, Y5 4, Y5 5, Y5 6, Y5 7, Y5 8, Y5 9, Y5 10, Y5 11, Y5 12, Y5 13, Y5 14, Y5 15, Y5 16, Y5 17, Y5 18, Y5 19, Z5 0, Z5 1], defers := [] } → Kept b w Wl5 → Fl b s5.2 Wl5 → Arr w.heap.size (row 43 g) Wl5 → Arr (w.heap.size + 1 + 1 + 1) (row 43 (fun _ => 0)) Wl5 → Arr w16.heap.size (row 36 r18.2.1) Wl5 → Arr w23.heap.size (row 6 r25.1) Wl5 → Arr w26.heap.size (row 36 r26.1) Wl5 → Arr Wl6.heap.size (row 36 s5.1) Wl5 → G_) → G_) := ⟨_, rfl⟩
         refine rounds_up J5 6 ?_ ?_ ?_
         ·refine give_act (fun a_ ea_ => ?_)
          rw [hJ5.out]
          intro G_ hG_
          exact hG_ ((fun _ => 0), r32.2) (zS a_ 0) (zS a_ 20) (zS a_ 40) (zS a_ 60) (zS a_ 80) (zS a_ 100) (zS a_ 120) (zS a_ 140) (zS a_ 160) (zS a_ 180) (zS a_ 200) (zS a_ 220) (zS a_ 240) (zS a_ 260) (zS a_ 280) (zS a_ 300) (zS a_ 320) rfl (by subst ea_; rfl) K33 BF_33 B0_33 B3_33 B9_33 B10_33 B11_33 B13_33
         ·intro i a Wl5 hi hI R hR
          rw [hJ5.out] at hI
          refine hI _ ?_
          clear hI
          intro s5 A5 C5 D5 F5 G5 L5 M5 N5 O5 P5 Q5 R5 S5 T5 U5 Y5 Z5 El5 ea Kl5 BF_l5 B0_l5 B3_l5 B9_l5 B10_l5 B11_l5 B13_l5
          subst ea
          have zl5_BF := BF_l5.lies
          have zl5_B0 := B0_l5.lies
          have zl5_B3 := B3_l5.lies
          have zl5_B9 := B9_l5.lies
          have zl5_B10 := B10_l5.lies
          have zl5_B11 := B11_l5.lies
          have zl5_B13 := B13_l5.lies
          go_wp2_with fail
          refine wp_region_held_drew (S := fun w' => Arr w26.heap.size (row 36 r26.1) w' ∧ Arr w16.heap.size (row 36 r18.2.1) w') (by kernel_rfl) ⟨B11_l5.drew, B9_l5.drew⟩ (fun zH => ?_)
          refine zT 0 rfl (by kernel_rfl) (fun _ _ _ => id) rfl (fun _ _ => by go_simp <;> with_reducible rfl) zH ?_
          simp only [Act.put, zA, zB, zC]
          refine zT 1 rfl (by kernel_rfl) (fun _ _ _ => id) rfl (fun _ _ => by go_simp <;> with_reducible rfl) zH ?_
          simp only [Act.put, zA, zB, zC]
          refine take_at (i := 2) rfl (by kernel_rfl) (by kernel_rfl) (by kernel_rfl) (fun _ _ _ h => h) (row_yield (by rfl) rfl rfl (fun _ hS => hS.1) (by kernel_rfl) (by rw [row_len]; kernel_rfl)) zH ?_
          simp only [Act.put, zA, zB, zC]
          refine zT 3 rfl (by kernel_rfl) (fun _ _ _ => id) rfl (fun _ _ => by go_simp <;> with_reducible rfl) zH ?_
          simp only [Act.put, zA, zB, zC]
          refine zT 4 rfl (by kernel_rfl) (fun _ _ _ => id) rfl (fun _ _ => by have hi0 : (i : Int) < 6 := (by omega); go_simp <;> with_reducible rfl) zH ?_
          simp only [Act.put, zA, zB, zC]
          refine take_at (i := 5) rfl (by kernel_rfl) (by kernel_rfl) (by kernel_rfl) (fun _ _ _ h => h) (part_yield (M := 6) (by rfl) rfl rfl (fun _ hS => hS.2) (by omega) (by kernel_rfl) (by rw [row_len]; kernel_rfl)) zH ?_
          simp only [Act.put, zA, zB, zC]
          refine zK 6 (by kernel_rfl) rfl (fun K hK => ?_)
          go_simp
          refine (zSolve6_any b s5.2 r26.1 (fun x_ => r18.2.1 (i * 6 + x_)) _ BF_l5.drew).mono ?_
          rintro e w34 ⟨rfl, f34, k34⟩
          generalize e34 : zSolve6 s5.2 r26.1 (fun x_ => r18.2.1 (i * 6 + x_)) = r34 at f34 ⊢
          have E34 : Hid _ := e34
          clear e34
          have K34 : Kept b w w34 := Kept.trans Kl5.drew k34
          have B0_34 := B0_l5.drew.kept k34 (zG y1_BF)
          have B3_34 := B3_l5.drew.kept k34 (zG y4_BF)
          have B9_34 := B9_l5.drew.kept k34 (zG y16_BF)
          have B10_34 := B10_l5.drew.kept k34 (zG y17_BF)
          have B11_34 := B11_l5.drew.kept k34 (zG y18_BF)
          have B13_34 := B13_l5.drew.kept k34 (zG y20_BF)
          have z34 := B13_34.lies
          clear zH
          refine hK.out _ _ ⟨B11_34, B9_34⟩ (fun zH => ?_)
          clear hK K BF_l5 B0_l5 B3_l5 B9_l5 B10_l5 B11_l5 B13_l5 k34
          refine zT 7 rfl (by kernel_rfl) (fun _ _ _ => id) rfl (fun _ _ => by have hi0 : (i : Int) < 6 := (by omega); go_simp <;> with_reducible rfl) zH ?_
          simp only [Act.put, zA, zB, zC]
          refine zK 8 (by kernel_rfl) rfl (fun K hK => ?_)
          have c46_B13_0 : w34.cell? ⟨Wl6.heap.size, i * 6 + 1, none⟩ = some (.int .i64 (s5.1 (i * 6 + 1))) := row_c B13_34 (i * 6 + 1) (by omega)
          have c46_B13_1 : w34.cell? ⟨Wl6.heap.size, i * 6 + 2, none⟩ = some (.int .i64 (s5.1 (i * 6 + 2))) := row_c B13_34 (i * 6 + 2) (by omega)
          have c46_B13_2 : w34.cell? ⟨Wl6.heap.size, i * 6 + 3, none⟩ = some (.int .i64 (s5.1 (i * 6 + 3))) := row_c B13_34 (i * 6 + 3) (by omega)
          have c46_B13_3 : w34.cell? ⟨Wl6.heap.size, i * 6 + 4, none⟩ = some (.int .i64 (s5.1 (i * 6 + 4))) := row_c B13_34 (i * 6 + 4) (by omega)
          have c46_B13_4 : w34.cell? ⟨Wl6.heap.size, i * 6 + 5, none⟩ = some (.int .i64 (s5.1 (i * 6 + 5))) := row_c B13_34 (i * 6 + 5) (by omega)
          have c46_B13_5 : w34.cell? ⟨Wl6.heap.size, i * 6, none⟩ = some (.int .i64 (s5.1 (i * 6))) := row_c B13_34 (i * 6) (by omega)
          have g46_B13_6 := row_f B13_34 (i * 6 + 1) (by omega)
          have g46_B13_7 := row_f B13_34 (i * 6 + 2) (by omega)
          have g46_B13_8 := row_f B13_34 (i * 6 + 3) (by omega)
          have g46_B13_9 := row_f B13_34 (i * 6 + 4) (by omega)
          have g46_B13_10 := row_f B13_34 (i * 6 + 5) (by omega)
          have g46_B13_11 := row_f B13_34 (i * 6) (by omega)
          have hrow : (row 6 r34.1).toArray = #[.int .i64 (r34.1 0), .int .i64 (r34.1 1), .int .i64 (r34.1 2), .int .i64 (r34.1 3), .int .i64 (r34.1 4), .int .i64 (r34.1 5)] := rfl
          go_simp
          clear zH
          refine hK.out _ _ ⟨((((((B11_34.new Wl6.heap.size (i * 6) (zL y20_B11) (.int .i64 (r34.1 0))).new Wl6.heap.size (i * 6 + 1) (zL y20_B11) (.int .i64 (r34.1 1))).new Wl6.heap.size (i * 6 + 2) (zL y20_B11) (.int .i64 (r34.1 2))).new Wl6.heap.size (i * 6 + 3) (zL y20_B11) (.int .i64 (r34.1 3))).new Wl6.heap.size (i * 6 + 4) (zL y20_B11) (.int .i64 (r34.1 4))).new Wl6.heap.size (i * 6 + 5) (zL y20_B11) (.int .i64 (r34.1 5))), ((((((B9_34.new Wl6.heap.size (i * 6) (zL y20_B9) (.int .i64 (r34.1 0))).new Wl6.heap.size (i * 6 + 1) (zL y20_B9) (.int .i64 (r34.1 1))).new Wl6.heap.size (i * 6 + 2) (zL y20_B9) (.int .i64 (r34.1 2))).new Wl6.heap.size (i * 6 + 3) (zL y20_B9) (.int .i64 (r34.1 3))).new Wl6.heap.size (i * 6 + 4) (zL y20_B9) (.int .i64 (r34.1 4))).new Wl6.heap.size (i * 6 + 5) (zL y20_B9) (.int .i64 (r34.1 5)))⟩ (fun zH => ?_)
          clear hK K c46_B13_0 c46_B13_1 c46_B13_2 c46_B13_3 c46_B13_4 c46_B13_5 g46_B13_6 g46_B13_7 g46_B13_8 g46_B13_9 g46_B13_10 g46_B13_11 hrow
          refine wpAnyH_done (by kernel_rfl) ?_ _
          clear zH
          go_wp2_with fail
          have hs5 : Hid (fMeetS_l5 r18 r26 ((fun _ => 0), r32.2) (i + 1) = ((updF (updF (updF (updF (updF (updF s5.1 (i * 6) (r34.1 0)) (i * 6 + 1) (r34.1 1)) (i * 6 + 2) (r34.1 2)) (i * 6 + 3) (r34.1 3)) (i * 6 + 4) (r34.1 4)) (i * 6 + 5) (r34.1 5)), r34.2)) := by show _ = _; rw [fMeetS_l5_succ]; unfold fMeetS_l5s; simp only [El5.out, E34.out]
          refine give_act (fun a_ ea_ => ?_)
          rw [hJ5.out]
          intro G_ hG_
          exact hG_ ((updF (updF (updF (updF (updF (updF s5.1 (i * 6) (r34.1 0)) (i * 6 + 1) (r34.1 1)) (i * 6 + 2) (r34.1 2)) (i * 6 + 3) (r34.1 3)) (i * 6 + 4) (r34.1 4)) (i * 6 + 5) (r34.1 5)), r34.2) (zS a_ 0) (zS a_ 20) (zS a_ 40) (zS a_ 60) (zS a_ 80) (zS a_ 100) (zS a_ 120) (zS a_ 140) (zS a_ 160) (zS a_ 180) (zS a_ 200) (zS a_ 220) (zS a_ 240) (zS a_ 260) (zS a_ 280) (zS a_ 300) (zS a_ 320) hs5 (by subst ea_; rfl) ((((((K34.new _ _ (by omega) _).new _ _ (by omega) _).new _ _ (by omega) _).new _ _ (by omega) _).new _ _ (by omega) _).new _ _ (by omega) _) ((((((f34.new Wl6.heap.size (i * 6) (zL y20_BF) (.int .i64 (r34.1 0))).new Wl6.heap.size (i * 6 + 1) (zL y20_BF) (.int .i64 (r34.1 1))).new Wl6.heap.size (i * 6 + 2) (zL y20_BF) (.int .i64 (r34.1 2))).new Wl6.heap.size (i * 6 + 3) (zL y20_BF) (.int .i64 (r34.1 3))).new Wl6.heap.size (i * 6 + 4) (zL y20_BF) (.int .i64 (r34.1 4))).new Wl6.heap.size (i * 6 + 5) (zL y20_BF) (.int .i64 (r34.1 5))) ((((((B0_34.new Wl6.heap.size (i * 6) (zL y20_B0) (.int .i64 (r34.1 0))).new Wl6.heap.size (i * 6 + 1) (zL y20_B0) (.int .i64 (r34.1 1))).new Wl6.heap.size (i * 6 + 2) (zL y20_B0) (.int .i64 (r34.1 2))).new Wl6.heap.size (i * 6 + 3) (zL y20_B0) (.int .i64 (r34.1 3))).new Wl6.heap.size (i * 6 + 4) (zL y20_B0) (.int .i64 (r34.1 4))).new Wl6.heap.size (i * 6 + 5) (zL y20_B0) (.int .i64 (r34.1 5))) ((((((B3_34.new Wl6.heap.size (i * 6) (zL y20_B3) (.int .i64 (r34.1 0))).new Wl6.heap.size (i * 6 + 1) (zL y20_B3) (.int .i64 (r34.1 1))).new Wl6.heap.size (i * 6 + 2) (zL y20_B3) (.int .i64 (r34.1 2))).new Wl6.heap.size (i * 6 + 3) (zL y20_B3) (.int .i64 (r34.1 3))).new Wl6.heap.size (i * 6 + 4) (zL y20_B3) (.int .i64 (r34.1 4))).new Wl6.heap.size (i * 6 + 5) (zL y20_B3) (.int .i64 (r34.1 5))) ((((((B9_34.new Wl6.heap.size (i * 6) (zL y20_B9) (.int .i64 (r34.1 0))).new Wl6.heap.size (i * 6 + 1) (zL y20_B9) (.int .i64 (r34.1 1))).new Wl6.heap.size (i * 6 + 2) (zL y20_B9) (.int .i64 (r34.1 2))).new Wl6.heap.size (i * 6 + 3) (zL y20_B9) (.int .i64 (r34.1 3))).new Wl6.heap.size (i * 6 + 4) (zL y20_B9) (.int .i64 (r34.1 4))).new Wl6.heap.size (i * 6 + 5) (zL y20_B9) (.int .i64 (r34.1 5))) ((((((B10_34.new Wl6.heap.size (i * 6) (zL y20_B10) (.int .i64 (r34.1 0))).new Wl6.heap.size (i * 6 + 1) (zL y20_B10) (.int .i64 (r34.1 1))).new Wl6.heap.size (i * 6 + 2) (zL y20_B10) (.int .i64 (r34.1 2))).new Wl6.heap.size (i * 6 + 3) (zL y20_B10) (.int .i64 (r34.1 3))).new Wl6.heap.size (i * 6 + 4) (zL y20_B10) (.int .i64 (r34.1 4))).new Wl6.heap.size (i * 6 + 5) (zL y20_B10) (.int .i64 (r34.1 5))) ((((((B11_34.new Wl6.heap.size (i * 6) (zL y20_B11) (.int .i64 (r34.1 0))).new Wl6.heap.size (i * 6 + 1) (zL y20_B11) (.int .i64 (r34.1 1))).new Wl6.heap.size (i * 6 + 2) (zL y20_B11) (.int .i64 (r34.1 2))).new Wl6.heap.size (i * 6 + 3) (zL y20_B11) (.int .i64 (r34.1 3))).new Wl6.heap.size (i * 6 + 4) (zL y20_B11) (.int .i64 (r34.1 4))).new Wl6.heap.size (i * 6 + 5) (zL y20_B11) (.int .i64 (r34.1 5))) (row_put (row_put (row_put (row_put (row_put (row_put B13_34 (i * 6) (by omega) (r34.1 0)) (i * 6 + 1) (by omega) (r34.1 1)) (i * 6 + 2) (by omega) (r34.1 2)) (i * 6 + 3) (by omega) (r34.1 3)) (i * 6 + 4) (by omega) (r34.1 4)) (i * 6 + 5) (by omega) (r34.1 5))
         ·intro a Wl5 hI R
          rw [hJ5.out] at hI
          refine hI _ ?_
          clear hI hJ5
          intro r35 A5 C5 D5 F5 G5 L5 M5 N5 O5 P5 Q5 R5 S5 T5 U5 Y5 Z5 E35 ea Kl5 BF_l5 B0_l5 B3_l5 B9_l5 B10_l5 B11_l5 B13_l5
          subst ea
          have zl5_BF := BF_l5.lies
          have zl5_B0 := B0_l5.lies
          have zl5_B3 := B3_l5.lies
          have zl5_B9 := B9_l5.lies
          have zl5_B10 := B10_l5.lies
          have zl5_B11 := B11_l5.lies
          have zl5_B13 := B13_l5.lies
          go_wp2_with (first | (refine row_load rfl rfl rfl B13_l5 (by kernel_rfl) (by rw [row_len]; kernel_rfl) ?_) | (refine row_load rfl rfl rfl B10_l5 (by kernel_rfl) (by rw [row_len]; kernel_rfl) ?_))
          refine (zApply6_any b r35.2 r35.1 r25.1 _ BF_l5).mono ?_
          rintro e w36 ⟨rfl, f36, k36⟩
          generalize e36 : zApply6 r35.2 r35.1 r25.1 = r36 at f36 ⊢
          have E36 : Hid _ := e36
          clear e36
          try dsimp only
          have K36 : Kept b w w36 := Kept.trans Kl5 k36
          have B0_36 := B0_l5.kept k36 (zG y1_BF)
          have B3_36 := B3_l5.kept k36 (zG y4_BF)
          have B9_36 := B9_l5.kept k36 (zG y16_BF)
          have B10_36 := B10_l5.kept k36 (zG y17_BF)
          have B13_36 := B13_l5.kept k36 (zG y20_BF)
          have z36 := B13_36.lies
          clear BF_l5 B0_l5 B3_l5 B9_l5 B10_l5 B13_l5 k36
          have y21_BF := f36.lies
          have y21_B0 := B0_36.lies
          have y21_B3 := B3_36.lies
          have y21_B9 := B9_36.lies
          have y21_B10 := B10_36.lies
          have y21_B13 := B13_36.lies
          go_wp2_with (refine store_stop rfl (by kernel_rfl) ?_)
          refine Stop.mk (store_row (l' := row 6 r36.1) rfl rfl rfl rfl (Arr_at _ _ [.int .i64 0, .int .i64 0, .int .i64 0, .int .i64 0, .int .i64 0, .int .i64 0] _ (by simp)) (by rw [row_len]; rfl) (by rw [row_len]; kernel_rfl) (row_one _ _) ?_)
          intro w37 B14_37 o37
          have K37 : Kept b w w37 := Kept.off (K36.al _) o37 (by omega)
          have BF_37 := (f36.alloc _).off o37 (zL y21_BF)
          have B0_37 := (B0_36.alloc _).off o37 (zL y21_B0)
          have B3_37 := (B3_36.alloc _).off o37 (zL y21_B3)
          have B9_37 := (B9_36.alloc _).off o37 (zL y21_B9)
          have B10_37 := (B10_36.alloc _).off o37 (zL y21_B10)
          have B13_37 := (B13_36.alloc _).off o37 (zL y21_B13)
          have z37_B14 := B14_37.lies
          have z37_BF := BF_37.lies
          have z37_B0 := B0_37.lies
          have z37_B3 := B3_37.lies
          have z37_B9 := B9_37.lies
          have z37_B10 := B10_37.lies
          have z37_B13 := B13_37.lies
          clear K36 f36 B0_36 B3_36 B9_36 B10_36 B13_36 o37
          have y22_BF := BF_37.lies
          have y22_B0 := B0_37.lies
          have y22_B3 := B3_37.lies
          have y22_B9 := B9_37.lies
          have y22_B13 := B13_37.lies
          have y22_B14 := B14_37.lies
          go_wp2_with (refine store_stop rfl (by kernel_rfl) ?_)
          refine Stop.mk (store_row (l' := row 36 (fun _ => 0)) rfl rfl rfl rfl (Arr_at _ _ (row 36 (fun _ => 0)) _ (by simp)) (by simp only [row_len]) (by rw [row_len]; kernel_rfl) (row_one _ _) ?_)
          intro w38 B15_38 o38
          have K38 : Kept b w w38 := Kept.off (K37.al _) o38 (by omega)
          have BF_38 := (BF_37.alloc _).off o38 (zL y22_BF)
          have B0_38 := (B0_37.alloc _).off o38 (zL y22_B0)
          have B3_38 := (B3_37.alloc _).off o38 (zL y22_B3)
          have B9_38 := (B9_37.alloc _).off o38 (zL y22_B9)
          have B13_38 := (B13_37.alloc _).off o38 (zL y22_B13)
          have B14_38 := (B14_37.alloc _).off o38 (zL y22_B14)
          have z38_B15 := B15_38.lies
          have z38_BF := BF_38.lies
          have z38_B0 := B0_38.lies
          have z38_B3 := B3_38.lies
          have z38_B9 := B9_38.lies
          have z38_B13 := B13_38.lies
          have z38_B14 := B14_38.lies
          clear K37 BF_37 B0_37 B3_37 B9_37 B13_37 B14_37 o38
          go_wp2_with fail
          obtain ⟨J2, hJ2⟩ : ∃ J : Nat → Act → World → Prop, Hid (J = fun i a Wl2 => ∀ G_ : Prop, (∀ (s2 : (Nat → Int) × Bool) (A2 C2 D2 F2 G2 L2 M2 N2 O2 P2 Q2 R2 S2 T2 U2 Y2 Z2 : Nat → Value), Hid (fMeetS_l2 g r18 r35 ((fun _ => 0), r36.2) i = s2) → a = { tmps := #[.pointer (some ⟨b, 0, none⟩), A2 1, A2 2, A2 3, A2 4, .pointer (some ⟨w.heap.size, 0, none⟩), A2 6, A2 7, .pointer (some ⟨w.heap.size + 1 + 1 + 1, 0, none⟩), A2 9, A2 10, A2 11, A2 12, A2 13, A2 14, A2 15, A2 16, A2 17, A2 18, A2 19, .pointer (some ⟨w16.heap.size, 0, none⟩), C2 1, C2 2, C2 3, C2 4, C2 5, C2 6, C2 7, .int .i64 r32.1, C2 9, .pointer (some ⟨Wl6.heap.size, 0, none⟩), C2 11, .pointer (some ⟨w36.heap.size, 0, none⟩), .pointer (some ⟨w37.heap.size, 0, none⟩), .int .i64 (i : Int), C2 15, C2 16, C2 17, C2 18, C2 19, D2 0, D2 1, D2 2, D2 3, D2 4, D2 5, D2 6, D2 7, D2 8, D2 9, D2 10, D2 11, D2 12, D2 13, D2 14, D2 15, D2 16, D2 17, D2 18, D2 19, F2 0, F2 1, F2 2, F2 3, F2 4, F2 5, F2 6, F2 7, F2 8, F2 9, F2 10, F2 11, F2 12, F2 13, F2 14, F2 15, F2 16, F2 17, F2 18, F2 19, G2 0, G2 1, G2 2, G2 3, G2 4, G2 5, G2 6, G2 7, G2 8, G2 9, G2 10, G2 11, G2 12, G2 13, G2 14, G2 15, G2 16, G2 17, G2 18, G2 19, L2 0, L2 1, L2 2, L2 3, L2 4, L2 5, L2 6, L2 7, L2 8, L2 9, L2 10, L2 11, L2 12, L2 13, L2 14, L2 15, L2 16, L2 17, L2 18, L2 19, M2 0, M2 1, M2 2, M2 3, M2 4, M2 5, M2 6, M2 7, M2 8, M2 9, M2 10, M2 11, M2 12, M2 13, M2 14, M2 15, M2 16, M2 17, M2 18, M2 19, N2 0, N2 1, N2 2, N2 3, N2 4, N2 5, N2 6, N2 7, N2 8, N2 9, N2 10, N2 11, N2 12, N2 13, N2 14, N2 15, N2 16, N2 17, N2 18, N2 19, O2 0, O2 1, O2 2, O2 3, O2 4, O2 5, O2 6, O2 7, O2 8, O2 9, O2 10, O2 11, O2 12, O2 13, O2 14, O2 15, O2 16, O2 17, O2 18, O2 19, P2 0, P2 1, P2 2, P2 3, P2 4, P2 5, P2 6, P2 7, P2 8, P2 9, P2 10, P2 11, P2 12, P2 13, P2 14, P2 15, P2 16, P2 17, P2 18, P2 19, Q2 0, Q2 1, Q2 2, Q2 3, Q2 4, Q2 5, Q2 6, Q2 7, Q2 8, Q2 9, Q2 10, Q2 11, Q2 12, Q2 13, Q2 14, Q2 15, Q2 16, Q2 17, Q2 18, Q2 19, R2 0, R2 1, R2 2, R2 3, R2 4, R2 5, R2 6, R2 7, R2 8, R2 9, R2 10, R2 11, R2 12, R2 13, R2 14, R2 15, R2 16, R2 17, R2 18, R2 19, S2 0, S2 1, S2 2, S2 3, S2 4, S2 5, S2 6, S2 7, S2 8, S2 9, S2 10, S2 11, S2 12, S2 13, S2 14, S2 15, S2 16, S2 17, S2 18, S2 19, T2 0, T2 1, T2 2, T2 3, T2 4, T2 5, T2 6, T2 7, T2 8, T2 9, T2 10, T2 11, T2 12, T2 13, T2 14, T2 15, T2 16, T2 17, T2 18, T2 19, U2 0, U2 1, U2 2, U2 3, U2 4, U2 5, U2 6, U2 7, U2 8, U2 9, U2 10, U2 11, U2 12, U2 13, U2 14, U2 15, U2 16, U2 17, U2 18, U2 19, Y2 0, Y2 1, Y2 2, Y2 3, Y2 4, Y2 5, Y2 6, Y2 7, Y2 8, Y2 9, Y2 10, Y2 11, Y2 12, Y2 13, Y2 14, Y2 15, Y2 16, Y2 17, Y2 18, Y2 19, Z2 0, Z2 1], defers := [] } → Kept b w Wl2 → Fl b s2.2 Wl2 → Arr w.heap.size (row 43 g) Wl2 → Arr (w.heap.size + 1 + 1 + 1) (row 43 (fun _ => 0)) Wl2 → Arr w16.heap.size (row 36 r18.2.1) Wl2 → Arr Wl6.heap.size (row 36 r35.1) Wl2 → Arr w36.heap.size (row 6 r36.1) Wl2 → Arr w37.heap.size (row 36 s2.1) Wl2 → G_) → G_) := ⟨_, rfl⟩
          refine rounds_up J2 6 ?_ ?_ ?_
          ·refine give_act (fun a_ ea_ => ?_)
           rw [hJ2.out]
           intro G_ hG_
           exact hG_ ((fun _ => 0), r36.2) (zS a_ 0) (zS a_ 20) (zS a_ 40) (zS a_ 60) (zS a_ 80) (zS a_ 100) (zS a_ 120) (zS a_ 140) (zS a_ 160) (zS a_ 180) (zS a_ 200) (zS a_ 220) (zS a_ 240) (zS a_ 260) (zS a_ 280) (zS a_ 300) (zS a_ 320) rfl (by subst ea_; rfl) K38 BF_38 B0_38 B3_38 B9_38 B13_38 B14_38 B15_38
          ·intro i a Wl2 hi hI R hR
           rw [hJ2.out] at hI
           refine hI _ ?_
           clear hI
           intro s2 A2 C2 D2 F2 G2 L2 M2 N2 O2 P2 Q2 R2 S2 T2 U2 Y2 Z2 El2 ea Kl2 BF_l2 B0_l2 B3_l2 B9_l2 B13_l2 B14_l2 B15_l2
           subst ea
           have zl2_BF := BF_l2.lies
           have zl2_B0 := B0_l2.lies
           have zl2_B3 := B3_l2.lies
           have zl2_B9 := B9_l2.lies
           have zl2_B13 := B13_l2.lies
           have zl2_B14 := B14_l2.lies
           have zl2_B15 := B15_l2.lies
           go_wp2_with fail
           obtain ⟨J3, hJ3⟩ : ∃ J : Nat → Act → World → Prop, Hid (J = fun j a Wl3 => ∀ G_ : Prop, (∀ (s3 : (Nat → Int) × Bool) (A3 C3 D3 F3 G3 L3 M3 N3 O3 P3 Q3 R3 S3 T3 U3 Y3 Z3 : Nat → Value), Hid (fMeetS_l3 g i r18 r35 (s2.1, s2.2) j = s3) → a = { tmps := #[.pointer (some ⟨b, 0, none⟩), A3 1, A3 2, A3 3, A3 4, .pointer (some ⟨w.heap.size, 0, none⟩), A3 6, A3 7, .pointer (some ⟨w.heap.size + 1 + 1 + 1, 0, none⟩), A3 9, A3 10, A3 11, A3 12, A3 13, A3 14, A3 15, A3 16, A3 17, A3 18, A3 19, .pointer (some ⟨w16.heap.size, 0, none⟩), C3 1, C3 2, C3 3, C3 4, C3 5, C3 6, C3 7, .int .i64 r32.1, C3 9, .pointer (some ⟨Wl6.heap.size, 0, none⟩), C3 11, .pointer (some ⟨w36.heap.size, 0, none⟩), .pointer (some ⟨w37.heap.size, 0, none⟩), .int .i64 (i : Int), .int .i64 (j : Int), C3 16, C3 17, C3 18, C3 19, D3 0, D3 1, D3 2, D3 3, D3 4, D3 5, D3 6, D3 7, D3 8, D3 9, D3 10, D3 11, D3 12, D3 13, D3 14, D3 15, D3 16, D3 17, D3 18, D3 19, F3 0, F3 1, F3 2, F3 3, F3 4, F3 5, F3 6, F3 7, F3 8, F3 9, F3 10, F3 11, F3 12, F3 13, F3 14, F3 15, F3 16, F3 17, F3 18, F3 19, G3 0, G3 1, G3 2, G3 3, G3 4, G3 5, G3 6, G3 7, G3 8, G3 9, G3 10, G3 11, G3 12, G3 13, G3 14, G3 15, G3 16, G3 17, G3 18, G3 19, L3 0, L3 1, L3 2, L3 3, L3 4, L3 5, L3 6, L3 7, L3 8, L3 9, L3 10, L3 11, L3 12, L3 13, L3 14, L3 15, L3 16, L3 17, L3 18, L3 19, M3 0, M3 1, M3 2, M3 3, M3 4, M3 5, M3 6, M3 7, M3 8, M3 9, M3 10, M3 11, M3 12, M3 13, M3 14, M3 15, M3 16, M3 17, M3 18, M3 19, N3 0, N3 1, N3 2, N3 3, N3 4, N3 5, N3 6, N3 7, N3 8, N3 9, N3 10, N3 11, N3 12, N3 13, N3 14, N3 15, N3 16, N3 17, N3 18, N3 19, O3 0, O3 1, O3 2, O3 3, O3 4, O3 5, O3 6, O3 7, O3 8, O3 9, O3 10, O3 11, O3 12, O3 13, O3 14, O3 15, O3 16, O3 17, O3 18, O3 19, P3 0, P3 1, P3 2, P3 3, P3 4, P3 5, P3 6, P3 7, P3 8, P3 9, P3 10, P3 11, P3 12, P3 13, P3 14, P3 15, P3 16, P3 17, P3 18, P3 19, Q3 0, Q3 1, Q3 2, Q3 3, Q3 4, Q3 5, Q3 6, Q3 7, Q3 8, Q3 9, Q3 10, Q3 11, Q3 12, Q3 13, Q3 14, Q3 15, Q3 16, Q3 17, Q3 18, Q3 19, R3 0, R3 1, R3 2, R3 3, R3 4, R3 5, R3 6, R3 7, R3 8, R3 9, R3 10, R3 11, R3 12, R3 13, R3 14, R3 15, R3 16, R3 17, R3 18, R3 19, S3 0, S3 1, S3 2, S3 3, S3 4, S3 5, S3 6, S3 7, S3 8, S3 9, S3 10, S3 11, S3 12, S3 13, S3 14, S3 15, S3 16, S3 17, S3 18, S3 19, T3 0, T3 1, T3 2, T3 3, T3 4, T3 5, T3 6, T3 7, T3 8, T3 9, T3 10, T3 11, T3 12, T3 13, T3 14, T3 15, T3 16, T3 17, T3 18, T3 19, U3 0, U3 1, U3 2, U3 3, U3 4, U3 5, U3 6, U3 7, U3 8, U3 9, U3 10, U3 11, U3 12, U3 13, U3 14, U3 15, U3 16, U3 17, U3 18, U3 19, Y3 0, Y3 1, Y3 2, Y3 3, Y3 4, Y3 5, Y3 6, Y3 7, Y3 8, Y3 9, Y3 10, Y3 11, Y3 12, Y3 13, Y3 14, Y3 15, Y3 16, Y3 17, Y3 18, Y3 19, Z3 0, Z3 1], defers := [] } → Kept b w Wl3 → Fl b s3.2 Wl3 → Arr w.heap.size (row 43 g) Wl3 → Arr (w.heap.size + 1 + 1 + 1) (row 43 (fun _ => 0)) Wl3 → Arr w16.heap.size (row 36 r18.2.1) Wl3 → Arr Wl6.heap.size (row 36 r35.1) Wl3 → Arr w36.heap.size (row 6 r36.1) Wl3 → Arr w37.heap.size (row 36 s3.1) Wl3 → G_) → G_) := ⟨_, rfl⟩
           refine rounds_up J3 6 ?_ ?_ ?_
           ·refine give_act (fun a_ ea_ => ?_)
            rw [hJ3.out]
            intro G_ hG_
            exact hG_ (s2.1, s2.2) (zS a_ 0) (zS a_ 20) (zS a_ 40) (zS a_ 60) (zS a_ 80) (zS a_ 100) (zS a_ 120) (zS a_ 140) (zS a_ 160) (zS a_ 180) (zS a_ 200) (zS a_ 220) (zS a_ 240) (zS a_ 260) (zS a_ 280) (zS a_ 300) (zS a_ 320) rfl (by subst ea_; rfl) Kl2 BF_l2 B0_l2 B3_l2 B9_l2 B13_l2 B14_l2 B15_l2
           ·intro j a Wl3 hj hI R hR
            rw [hJ3.out] at hI
            refine hI _ ?_
            clear hI
            intro s3 A3 C3 D3 F3 G3 L3 M3 N3 O3 P3 Q3 R3 S3 T3 U3 Y3 Z3 El3 ea Kl3 BF_l3 B0_l3 B3_l3 B9_l3 B13_l3 B14_l3 B15_l3
            subst ea
            have zl3_BF := BF_l3.lies
            have zl3_B0 := B0_l3.lies
            have zl3_B3 := B3_l3.lies
            have zl3_B9 := B9_l3.lies
            have zl3_B13 := B13_l3.lies
            have zl3_B14 := B14_l3.lies
            have zl3_B15 := B15_l3.lies
            go_wp2_with fail
            obtain ⟨J4, hJ4⟩ : ∃ J : Nat → Act → World → Prop, Hid (J = fun c a Wl4 => ∀ G_ : Prop, (∀ (s4 : Int × Bool) (A4 C4 D4 F4 G4 L4 M4 N4 O4 P4 Q4 R4 S4 T4 U4 Y4 Z4 : Nat → Value), Hid (fMeetS_l4 i j r18 r35 (0, s3.2) c = s4) → a = { tmps := #[.pointer (some ⟨b, 0, none⟩), A4 1, A4 2, A4 3, A4 4, .pointer (some ⟨w.heap.size, 0, none⟩), A4 6, A4 7, .pointer (some ⟨w.heap.size + 1 + 1 + 1, 0, none⟩), A4 9, A4 10, A4 11, A4 12, A4 13, A4 14, A4 15, A4 16, A4 17, A4 18, A4 19, .pointer (some ⟨w16.heap.size, 0, none⟩), C4 1, C4 2, C4 3, C4 4, C4 5, C4 6, C4 7, .int .i64 r32.1, C4 9, .pointer (some ⟨Wl6.heap.size, 0, none⟩), C4 11, .pointer (some ⟨w36.heap.size, 0, none⟩), .pointer (some ⟨w37.heap.size, 0, none⟩), .int .i64 (i : Int), .int .i64 (j : Int), .int .i64 s4.1, .int .i64 (c : Int), C4 18, C4 19, D4 0, D4 1, D4 2, D4 3, D4 4, D4 5, D4 6, D4 7, D4 8, D4 9, D4 10, D4 11, D4 12, D4 13, D4 14, D4 15, D4 16, D4 17, D4 18, D4 19, F4 0, F4 1, F4 2, F4 3, F4 4, F4 5, F4 6, F4 7, F4 8, F4 9, F4 10, F4 11, F4 12, F4 13, F4 14, F4 15, F4 16, F4 17, F4 18, F4 19, G4 0, G4 1, G4 2, G4 3, G4 4, G4 5, G4 6, G4 7, G4 8, G4 9, G4 10, G4 11, G4 12, G4 13, G4 14, G4 15, G4 16, G4 17, G4 18, G4 19, L4 0, L4 1, L4 2, L4 3, L4 4, L4 5, L4 6, L4 7, L4 8, L4 9, L4 10, L4 11, L4 12, L4 13, L4 14, L4 15, L4 16, L4 17, L4 18, L4 19, M4 0, M4 1, M4 2, M4 3, M4 4, M4 5, M4 6, M4 7, M4 8, M4 9, M4 10, M4 11, M4 12, M4 13, M4 14, M4 15, M4 16, M4 17, M4 18, M4 19, N4 0, N4 1, N4 2, N4 3, N4 4, N4 5, N4 6, N4 7, N4 8, N4 9, N4 10, N4 11, N4 12, N4 13, N4 14, N4 15, N4 16, N4 17, N4 18, N4 19, O4 0, O4 1, O4 2, O4 3, O4 4, O4 5, O4 6, O4 7, O4 8, O4 9, O4 10, O4 11, O4 12, O4 13, O4 14, O4 15, O4 16, O4 17, O4 18, O4 19, P4 0, P4 1, P4 2, P4 3, P4 4, P4 5, P4 6, P4 7, P4 8, P4 9, P4 10, P4 11, P4 12, P4 13, P4 14, P4 15, P4 16, P4 17, P4 18, P4 19, Q4 0, Q4 1, Q4 2, Q4 3, Q4 4, Q4 5, Q4 6, Q4 7, Q4 8, Q4 9, Q4 10, Q4 11, Q4 12, Q4 13, Q4 14, Q4 15, Q4 16, Q4 17, Q4 18, Q4 19, R4 0, R4 1, R4 2, R4 3, R4 4, R4 5, R4 6, R4 7, R4 8, R4 9, R4 10, R4 11, R4 12, R4 13, R4 14, R4 15, R4 16, R4 17, R4 18, R4 19, S4 0, S4 1, S4 2, S4 3, S4 4, S4 5, S4 6, S4 7, S4 8, S4 9, S4 10, S4 11, S4 12, S4 13, S4 14, S4 15, S4 16, S4 17, S4 18, S4 19, T4 0, T4 1, T4 2, T4 3, T4 4, T4 5, T4 6, T4 7, T4 8, T4 9, T4 10, T4 11, T4 12, T4 13, T4 14, T4 15, T4 16, T4 17, T4 18, T4 19, U4 0, U4 1, U4 2, U4 3, U4 4, U4 5, U4 6, U4 7, U4 8, U4 9, U4 10, U4 11, U4 12, U4 13, U4 14, U4 15, U4 16, U4 17, U4 18, U4 19, Y4 0, Y4 1, Y4 2, Y4 3, Y4 4, Y4 5, Y4 6, Y4 7, Y4 8, Y4 9, Y4 10, Y4 11, Y4 12, Y4 13, Y4 14, Y4 15, Y4 16, Y4 17, Y4 18, Y4 19, Z4 0, Z4 1], defers := [] } → Kept b w Wl4 → Fl b s4.2 Wl4 → Arr w.heap.size (row 43 g) Wl4 → Arr (w.heap.size + 1 + 1 + 1) (row 43 (fun _ => 0)) Wl4 → Arr w16.heap.size (row 36 r18.2.1) Wl4 → Arr Wl6.heap.size (row 36 r35.1) Wl4 → Arr w36.heap.size (row 6 r36.1) Wl4 → Arr w37.heap.size (row 36 s3.1) Wl4 → G_) → G_) := ⟨_, rfl⟩
            refine rounds_up J4 6 ?_ ?_ ?_
            ·refine give_act (fun a_ ea_ => ?_)
             rw [hJ4.out]
             intro G_ hG_
             exact hG_ (0, s3.2) (zS a_ 0) (zS a_ 20) (zS a_ 40) (zS a_ 60) (zS a_ 80) (zS a_ 100) (zS a_ 120) (zS a_ 140) (zS a_ 160) (zS a_ 180) (zS a_ 200) (zS a_ 220) (zS a_ 240) (zS a_ 260) (zS a_ 280) (zS a_ 300) (zS a_ 320) rfl (by subst ea_; rfl) Kl3 BF_l3 B0_l3 B3_l3 B9_l3 B13_l3 B14_l3 B15_l3
            ·intro c a Wl4 hc hI R hR
             rw [hJ4.out] at hI
             refine hI _ ?_
             clear hI
             intro s4 A4 C4 D4 F4 G4 L4 M4 N4 O4 P4 Q4 R4 S4 T4 U4 Y4 Z4 El4 ea Kl4 BF_l4 B0_l4 B3_l4 B9_l4 B13_l4 B14_l4 B15_l4
             subst ea
             have zl4_BF := BF_l4.lies
             have zl4_B0 := B0_l4.lies
             have zl4_B3 := B3_l4.lies
             have zl4_B9 := B9_l4.lies
             have zl4_B13 := B13_l4.lies
             have zl4_B14 := B14_l4.lies
             have zl4_B15 := B15_l4.lies
             go_wp2_with fail
             refine wp_region_held_drew (S := fun w' => Arr Wl6.heap.size (row 36 r35.1) w' ∧ Arr w16.heap.size (row 36 r18.2.1) w') (by kernel_rfl) ⟨B13_l4.drew, B9_l4.drew⟩ (fun zH => ?_)
             refine zT 0 rfl (by kernel_rfl) (fun _ _ _ => id) rfl (fun _ _ => by go_simp <;> with_reducible rfl) zH ?_
             simp only [Act.put, zA, zB, zC]
             refine zT 1 rfl (by kernel_rfl) (fun _ _ _ => id) rfl (fun _ _ => by go_simp <;> with_reducible rfl) zH ?_
             simp only [Act.put, zA, zB, zC]
             refine zT 2 rfl (by kernel_rfl) (fun _ _ _ => id) rfl (fun _ _ => by go_simp <;> with_reducible rfl) zH ?_
             simp only [Act.put, zA, zB, zC]
             refine zT 3 rfl (by kernel_rfl) (fun _ _ _ => id) rfl (fun _ _ => by go_simp <;> with_reducible rfl) zH ?_
             simp only [Act.put, zA, zB, zC]
             refine zT 4 rfl (by kernel_rfl) (fun _ _ _ => id) rfl (fun _ _ => by go_simp <;> with_reducible rfl) zH ?_
             simp only [Act.put, zA, zB, zC]
             refine zT 5 rfl (by kernel_rfl) (fun _ _ _ => id) rfl (fun _ _ => by have hi0 : (i : Int) < 6 := (by omega); go_simp <;> with_reducible rfl) zH ?_
             simp only [Act.put, zA, zB, zC]
             refine zT 6 rfl (by kernel_rfl) (fun _ _ _ => id) rfl (fun _ _ => by have hi0 : (c : Int) < 6 := (by omega); go_simp <;> with_reducible rfl) zH ?_
             simp only [Act.put, zA, zB, zC]
             refine zT 7 rfl (by kernel_rfl) (fun _ _ _ => id) rfl (fun wx hS => by have hc0 : wx.cell? ⟨Wl6.heap.size, i * 6 + c, none⟩ = some (.int .i64 (r35.1 (i * 6 + c))) := row_c hS.1 (i * 6 + c) (by omega); go_simp <;> with_reducible rfl) zH ?_
             simp only [Act.put, zA, zB, zC]
             refine zT 8 rfl (by kernel_rfl) (fun _ _ _ => id) rfl (fun _ _ => by go_simp <;> with_reducible rfl) zH ?_
             simp only [Act.put, zA, zB, zC]
             refine zT 9 rfl (by kernel_rfl) (fun _ _ _ => id) rfl (fun _ _ => by go_simp <;> with_reducible rfl) zH ?_
             simp only [Act.put, zA, zB, zC]
             refine zT 10 rfl (by kernel_rfl) (fun _ _ _ => id) rfl (fun _ _ => by have hi0 : (j : Int) < 6 := (by omega); go_simp <;> with_reducible rfl) zH ?_
             simp only [Act.put, zA, zB, zC]
             refine zT 11 rfl (by kernel_rfl) (fun _ _ _ => id) rfl (fun _ _ => by have hi0 : (c : Int) < 6 := (by omega); go_simp <;> with_reducible rfl) zH ?_
             simp only [Act.put, zA, zB, zC]
             refine zT 12 rfl (by kernel_rfl) (fun _ _ _ => id) rfl (fun wx hS => by have hc0 : wx.cell? ⟨w16.heap.size, j * 6 + c, none⟩ = some (.int .i64 (r18.2.1 (j * 6 + c))) := row_c hS.2 (j * 6 + c) (by omega); go_simp <;> with_reducible rfl) zH ?_
             simp only [Act.put, zA, zB, zC]
             refine zK 13 (by kernel_rfl) rfl (fun K hK => ?_)
             go_simp
             refine (rMul_any b s4.2 (r35.1 (i * 6 + c)) (r18.2.1 (j * 6 + c)) _ BF_l4.drew).mono ?_
             rintro e w39 ⟨rfl, f39, k39⟩
             generalize e39 : mulS s4.2 (r35.1 (i * 6 + c)) (r18.2.1 (j * 6 + c)) = r39 at f39 ⊢
             have E39 : Hid _ := e39
             clear e39
             have K39 : Kept b w w39 := Kept.trans Kl4.drew k39
             have B0_39 := B0_l4.drew.kept k39 (zG y1_BF)
             have B3_39 := B3_l4.drew.kept k39 (zG y4_BF)
             have B9_39 := B9_l4.drew.kept k39 (zG y16_BF)
             have B13_39 := B13_l4.drew.kept k39 (zG y20_BF)
             have B14_39 := B14_l4.drew.kept k39 (zG y21_BF)
             have B15_39 := B15_l4.drew.kept k39 (zG y22_BF)
             have z39 := B15_39.lies
             clear zH
             refine hK.out _ _ ⟨B13_39, B9_39⟩ (fun zH => ?_)
             clear hK K BF_l4 B0_l4 B3_l4 B9_l4 B13_l4 B14_l4 B15_l4 k39
             refine zK 14 (by kernel_rfl) rfl (fun K hK => ?_)
             go_simp
             refine (rAdd_any b r39.2 s4.1 r39.1 _ f39).mono ?_
             rintro e w40 ⟨rfl, f40, k40⟩
             generalize e40 : addS r39.2 s4.1 r39.1 = r40 at f40 ⊢
             have E40 : Hid _ := e40
             clear e40
             have K40 := Kept.trans K39 k40
             have B0_40 := B0_39.kept k40 (zG y1_BF)
             have B3_40 := B3_39.kept k40 (zG y4_BF)
             have B9_40 := B9_39.kept k40 (zG y16_BF)
             have B13_40 := B13_39.kept k40 (zG y20_BF)
             have B14_40 := B14_39.kept k40 (zG y21_BF)
             have B15_40 := B15_39.kept k40 (zG y22_BF)
             have z40 := B15_40.lies
             clear zH
             refine hK.out _ _ ⟨B13_40, B9_40⟩ (fun zH => ?_)
             clear hK K K39 f39 B0_39 B3_39 B9_39 B13_39 B14_39 B15_39 k40
             refine zT 15 rfl (by kernel_rfl) (fun _ _ _ => id) rfl (fun _ _ => by go_simp <;> with_reducible rfl) zH ?_
             simp only [Act.put, zA, zB, zC]
             refine wpAnyH_done (by kernel_rfl) ?_ _
             clear zH
             go_wp2_with fail
             have hs4 : Hid (fMeetS_l4 i j r18 r35 (0, s3.2) (c + 1) = (r40.1, r40.2)) := by show _ = _; rw [fMeetS_l4_succ]; unfold fMeetS_l4s; simp only [El4.out, E39.out, E40.out]
             refine give_act (fun a_ ea_ => ?_)
             rw [hJ4.out]
             intro G_ hG_
             exact hG_ (r40.1, r40.2) (zS a_ 0) (zS a_ 20) (zS a_ 40) (zS a_ 60) (zS a_ 80) (zS a_ 100) (zS a_ 120) (zS a_ 140) (zS a_ 160) (zS a_ 180) (zS a_ 200) (zS a_ 220) (zS a_ 240) (zS a_ 260) (zS a_ 280) (zS a_ 300) (zS a_ 320) hs4 (by subst ea_; rfl) K40 f40 B0_40 B3_40 B9_40 B13_40 B14_40 B15_40
            ·intro a Wl4 hI R
             rw [hJ4.out] at hI
             refine hI _ ?_
             clear hI hJ4
             intro r41 A4 C4 D4 F4 G4 L4 M4 N4 O4 P4 Q4 R4 S4 T4 U4 Y4 Z4 E41 ea Kl4 BF_l4 B0_l4 B3_l4 B9_l4 B13_l4 B14_l4 B15_l4
             subst ea
             have zl4_BF := BF_l4.lies
             have zl4_B0 := B0_l4.lies
             have zl4_B3 := B3_l4.lies
             have zl4_B9 := B9_l4.lies
             have zl4_B13 := B13_l4.lies
             have zl4_B14 := B14_l4.lies
             have zl4_B15 := B15_l4.lies
             go_wp2_with fail
             refine wp_region_held_drew (S := fun w' => Arr w.heap.size (row 43 g) w') (by kernel_rfl) B0_l4.drew (fun zH => ?_)
             refine zT 0 rfl (by kernel_rfl) (fun _ _ _ => id) rfl (fun _ _ => by go_simp <;> with_reducible rfl) zH ?_
             simp only [Act.put, zA, zB, zC]
             refine zT 1 rfl (by kernel_rfl) (fun _ _ _ => id) rfl (fun _ _ => by go_simp <;> with_reducible rfl) zH ?_
             simp only [Act.put, zA, zB, zC]
             refine zT 2 rfl (by kernel_rfl) (fun _ _ _ => id) rfl (fun _ _ => by go_simp <;> with_reducible rfl) zH ?_
             simp only [Act.put, zA, zB, zC]
             refine zT 3 rfl (by kernel_rfl) (fun _ _ _ => id) rfl (fun _ _ => by go_simp <;> with_reducible rfl) zH ?_
             simp only [Act.put, zA, zB, zC]
             refine zT 4 rfl (by kernel_rfl) (fun _ _ _ => id) rfl (fun _ _ => by go_simp <;> with_reducible rfl) zH ?_
             simp only [Act.put, zA, zB, zC]
             refine zT 5 rfl (by kernel_rfl) (fun _ _ _ => id) rfl (fun _ _ => by go_simp <;> with_reducible rfl) zH ?_
             simp only [Act.put, zA, zB, zC]
             refine zT 6 rfl (by kernel_rfl) (fun _ _ _ => id) rfl (fun _ _ => by have hi0 : (i : Int) < 6 := (by omega); go_simp <;> with_reducible rfl) zH ?_
             simp only [Act.put, zA, zB, zC]
             refine zT 7 rfl (by kernel_rfl) (fun _ _ _ => id) rfl (fun _ _ => by have hi0 : (j : Int) < 6 := (by omega); go_simp <;> with_reducible rfl) zH ?_
             simp only [Act.put, zA, zB, zC]
             refine zT 8 rfl (by kernel_rfl) (fun _ _ _ => id) rfl (fun wx hS => by have hc0 : wx.cell? ⟨w.heap.size, 7 + i * 6 + j, none⟩ = some (.int .i64 (g (7 + i * 6 + j))) := row_c hS (7 + i * 6 + j) (by omega); go_simp <;> with_reducible rfl) zH ?_
             simp only [Act.put, zA, zB, zC]
             refine zT 9 rfl (by kernel_rfl) (fun _ _ _ => id) rfl (fun _ _ => by go_simp <;> with_reducible rfl) zH ?_
             simp only [Act.put, zA, zB, zC]
             refine zT 11 rfl (by kernel_rfl) (fun _ _ _ => id) rfl (fun _ _ => by have hi0 : (i : Int) < 6 := (by omega); go_simp <;> with_reducible rfl) zH ?_
             simp only [Act.put, zA, zB, zC]
             refine zK 10 (by kernel_rfl) rfl (fun K hK => ?_)
             go_simp
             refine (rSub_any b r41.2 (g (7 + i * 6 + j)) r41.1 _ BF_l4.drew).mono ?_
             rintro e w42 ⟨rfl, f42, k42⟩
             generalize e42 : subS r41.2 (g (7 + i * 6 + j)) r41.1 = r42 at f42 ⊢
             have E42 : Hid _ := e42
             clear e42
             have K42 : Kept b w w42 := Kept.trans Kl4.drew k42
             have B0_42 := B0_l4.drew.kept k42 (zG y1_BF)
             have B3_42 := B3_l4.drew.kept k42 (zG y4_BF)
             have B9_42 := B9_l4.drew.kept k42 (zG y16_BF)
             have B13_42 := B13_l4.drew.kept k42 (zG y20_BF)
             have B14_42 := B14_l4.drew.kept k42 (zG y21_BF)
             have B15_42 := B15_l4.drew.kept k42 (zG y22_BF)
             have z42 := B15_42.lies
             clear zH
             refine hK.out _ _ B0_42 (fun zH => ?_)
             clear hK K BF_l4 B0_l4 B3_l4 B9_l4 B13_l4 B14_l4 B15_l4 k42
             refine zT 12 rfl (by kernel_rfl) (fun _ _ _ => id) rfl (fun _ _ => by have hi0 : (j : Int) < 6 := (by omega); go_simp <;> with_reducible rfl) zH ?_
             simp only [Act.put, zA, zB, zC]
             refine zK 13 (by kernel_rfl) rfl (fun K hK => ?_)
             have c57_B15_0 : w42.cell? ⟨w37.heap.size, i * 6 + j, none⟩ = some (.int .i64 (s3.1 (i * 6 + j))) := row_c B15_42 (i * 6 + j) (by omega)
             have g57_B15_1 := row_f B15_42 (i * 6 + j) (by omega)
             go_simp
             clear zH
             refine hK.out _ _ (B0_42.new w37.heap.size (i * 6 + j) (zL y22_B0) (.int .i64 r42.1)) (fun zH => ?_)
             clear hK K c57_B15_0 g57_B15_1
             refine wpAnyH_done (by kernel_rfl) ?_ _
             clear zH
             go_wp2_with fail
             have hs3 : Hid (fMeetS_l3 g i r18 r35 (s2.1, s2.2) (j + 1) = ((updF s3.1 (i * 6 + j) r42.1), r42.2)) := by show _ = _; rw [fMeetS_l3_succ]; unfold fMeetS_l3s; simp only [El3.out, E41.out, E42.out]
             refine give_act (fun a_ ea_ => ?_)
             rw [hJ3.out]
             intro G_ hG_
             exact hG_ ((updF s3.1 (i * 6 + j) r42.1), r42.2) (zS a_ 0) (zS a_ 20) (zS a_ 40) (zS a_ 60) (zS a_ 80) (zS a_ 100) (zS a_ 120) (zS a_ 140) (zS a_ 160) (zS a_ 180) (zS a_ 200) (zS a_ 220) (zS a_ 240) (zS a_ 260) (zS a_ 280) (zS a_ 300) (zS a_ 320) hs3 (by subst ea_; rfl) (K42.new _ _ (by omega) _) (f42.new w37.heap.size (i * 6 + j) (zL y22_BF) (.int .i64 r42.1)) (B0_42.new w37.heap.size (i * 6 + j) (zL y22_B0) (.int .i64 r42.1)) (B3_42.new w37.heap.size (i * 6 + j) (zL y22_B3) (.int .i64 r42.1)) (B9_42.new w37.heap.size (i * 6 + j) (zL y22_B9) (.int .i64 r42.1)) (B13_42.new w37.heap.size (i * 6 + j) (zL y22_B13) (.int .i64 r42.1)) (B14_42.new w37.heap.size (i * 6 + j) (zL y22_B14) (.int .i64 r42.1)) (row_put B15_42 (i * 6 + j) (by omega) r42.1)
           ·intro a Wl3 hI R
            rw [hJ3.out] at hI
            refine hI _ ?_
            clear hI hJ3
            intro r39 A3 C3 D3 F3 G3 L3 M3 N3 O3 P3 Q3 R3 S3 T3 U3 Y3 Z3 E39 ea Kl3 BF_l3 B0_l3 B3_l3 B9_l3 B13_l3 B14_l3 B15_l3
            subst ea
            have zl3_BF := BF_l3.lies
            have zl3_B0 := B0_l3.lies
            have zl3_B3 := B3_l3.lies
            have zl3_B9 := B9_l3.lies
            have zl3_B13 := B13_l3.lies
            have zl3_B14 := B14_l3.lies
            have zl3_B15 := B15_l3.lies
            go_wp2_with fail
            have hs2 : Hid (fMeetS_l2 g r18 r35 ((fun _ => 0), r36.2) (i + 1) = (r39.1, r39.2)) := by show _ = _; rw [fMeetS_l2_succ]; unfold fMeetS_l2s; simp only [El2.out, E39.out]
            refine give_act (fun a_ ea_ => ?_)
            rw [hJ2.out]
            intro G_ hG_
            exact hG_ (r39.1, r39.2) (zS a_ 0) (zS a_ 20) (zS a_ 40) (zS a_ 60) (zS a_ 80) (zS a_ 100) (zS a_ 120) (zS a_ 140) (zS a_ 160) (zS a_ 180) (zS a_ 200) (zS a_ 220) (zS a_ 240) (zS a_ 260) (zS a_ 280) (zS a_ 300) (zS a_ 320) hs2 (by subst ea_; rfl) Kl3 BF_l3 B0_l3 B3_l3 B9_l3 B13_l3 B14_l3 B15_l3
          ·intro a Wl2 hI R
           rw [hJ2.out] at hI
           refine hI _ ?_
           clear hI hJ2
           intro r39 A2 C2 D2 F2 G2 L2 M2 N2 O2 P2 Q2 R2 S2 T2 U2 Y2 Z2 E39 ea Kl2 BF_l2 B0_l2 B3_l2 B9_l2 B13_l2 B14_l2 B15_l2
           subst ea
           have zl2_BF := BF_l2.lies
           have zl2_B0 := B0_l2.lies
           have zl2_B3 := B3_l2.lies
           have zl2_B9 := B9_l2.lies
           have zl2_B13 := B13_l2.lies
           have zl2_B14 := B14_l2.lies
           have zl2_B15 := B15_l2.lies
           have y23_BF := BF_l2.lies
           have y23_B0 := B0_l2.lies
           have y23_B3 := B3_l2.lies
           have y23_B14 := B14_l2.lies
           have y23_B15 := B15_l2.lies
           go_wp2_with (refine store_stop rfl (by kernel_rfl) ?_)
           refine Stop.mk (store_row (l' := row 43 (fun _ => 0)) rfl rfl rfl rfl (Arr_at _ _ (row 43 (fun _ => 0)) _ (by simp)) (by simp only [row_len]) (by rw [row_len]; kernel_rfl) (row_one _ _) ?_)
           intro w40 B16_40 o40
           have K40 : Kept b w w40 := Kept.off (Kl2.al _) o40 (by omega)
           have BF_40 := (BF_l2.alloc _).off o40 (zL y23_BF)
           have B0_40 := (B0_l2.alloc _).off o40 (zL y23_B0)
           have B3_40 := (B3_l2.alloc _).off o40 (zL y23_B3)
           have B14_40 := (B14_l2.alloc _).off o40 (zL y23_B14)
           have B15_40 := (B15_l2.alloc _).off o40 (zL y23_B15)
           have z40_B16 := B16_40.lies
           have z40_BF := BF_40.lies
           have z40_B0 := B0_40.lies
           have z40_B3 := B3_40.lies
           have z40_B14 := B14_40.lies
           have z40_B15 := B15_40.lies
           clear BF_l2 B0_l2 B3_l2 B14_l2 B15_l2 o40
           go_wp2_with fail
           obtain ⟨J0, hJ0⟩ : ∃ J : Nat → Act → World → Prop, Hid (J = fun i a Wl0 => ∀ G_ : Prop, (∀ (s0 : (Nat → Int) × Bool) (A0 C0 D0 F0 G0 L0 M0 N0 O0 P0 Q0 R0 S0 T0 U0 Y0 Z0 : Nat → Value), Hid (fMeetS_l0 r39 ((fun _ => 0), r39.2) i = s0) → a = { tmps := #[.pointer (some ⟨b, 0, none⟩), A0 1, A0 2, A0 3, A0 4, .pointer (some ⟨w.heap.size, 0, none⟩), A0 6, A0 7, .pointer (some ⟨w.heap.size + 1 + 1 + 1, 0, none⟩), A0 9, A0 10, A0 11, A0 12, A0 13, A0 14, A0 15, A0 16, A0 17, A0 18, A0 19, C0 0, C0 1, C0 2, C0 3, C0 4, C0 5, C0 6, C0 7, .int .i64 r32.1, C0 9, C0 10, C0 11, .pointer (some ⟨w36.heap.size, 0, none⟩), .pointer (some ⟨w37.heap.size, 0, none⟩), C0 14, C0 15, C0 16, C0 17, .pointer (some ⟨Wl2.heap.size, 0, none⟩), .int .i64 (i : Int), D0 0, D0 1, D0 2, D0 3, D0 4, D0 5, D0 6, D0 7, D0 8, D0 9, D0 10, D0 11, D0 12, D0 13, D0 14, D0 15, D0 16, D0 17, D0 18, D0 19, F0 0, F0 1, F0 2, F0 3, F0 4, F0 5, F0 6, F0 7, F0 8, F0 9, F0 10, F0 11, F0 12, F0 13, F0 14, F0 15, F0 16, F0 17, F0 18, F0 19, G0 0, G0 1, G0 2, G0 3, G0 4, G0 5, G0 6, G0 7, G0 8, G0 9, G0 10, G0 11, G0 12, G0 13, G0 14, G0 15, G0 16, G0 17, G0 18, G0 19, L0 0, L0 1, L0 2, L0 3, L0 4, L0 5, L0 6, L0 7, L0 8, L0 9, L0 10, L0 11, L0 12, L0 13, L0 14, L0 15, L0 16, L0 17, L0 18, L0 19, M0 0, M0 1, M0 2, M0 3, M0 4, M0 5, M0 6, M0 7, M0 8, M0 9, M0 10, M0 11, M0 12, M0 13, M0 14, M0 15, M0 16, M0 17, M0 18, M0 19, N0 0, N0 1, N0 2, N0 3, N0 4, N0 5, N0 6, N0 7, N0 8, N0 9, N0 10, N0 11, N0 12, N0 13, N0 14, N0 15, N0 16, N0 17, N0 18, N0 19, O0 0, O0 1, O0 2, O0 3, O0 4, O0 5, O0 6, O0 7, O0 8, O0 9, O0 10, O0 11, O0 12, O0 13, O0 14, O0 15, O0 16, O0 17, O0 18, O0 19, P0 0, P0 1, P0 2, P0 3, P0 4, P0 5, P0 6, P0 7, P0 8, P0 9, P0 10, P0 11, P0 12, P0 13, P0 14, P0 15, P0 16, P0 17, P0 18, P0 19, Q0 0, Q0 1, Q0 2, Q0 3, Q0 4, Q0 5, Q0 6, Q0 7, Q0 8, Q0 9, Q0 10, Q0 11, Q0 12, Q0 13, Q0 14, Q0 15, Q0 16, Q0 17, Q0 18, Q0 19, R0 0, R0 1, R0 2, R0 3, R0 4, R0 5, R0 6, R0 7, R0 8, R0 9, R0 10, R0 11, R0 12, R0 13, R0 14, R0 15, R0 16, R0 17, R0 18, R0 19, S0 0, S0 1, S0 2, S0 3, S0 4, S0 5, S0 6, S0 7, S0 8, S0 9, S0 10, S0 11, S0 12, S0 13, S0 14, S0 15, S0 16, S0 17, S0 18, S0 19, T0 0, T0 1, T0 2, T0 3, T0 4, T0 5, T0 6, T0 7, T0 8, T0 9, T0 10, T0 11, T0 12, T0 13, T0 14, T0 15, T0 16, T0 17, T0 18, T0 19, U0 0, U0 1, U0 2, U0 3, U0 4, U0 5, U0 6, U0 7, U0 8, U0 9, U0 10, U0 11, U0 12, U0 13, U0 14, U0 15, U0 16, U0 17, U0 18, U0 19, Y0 0, Y0 1, Y0 2, Y0 3, Y0 4, Y0 5, Y0 6, Y0 7, Y0 8, Y0 9, Y0 10, Y0 11, Y0 12, Y0 13, Y0 14, Y0 15, Y0 16, Y0 17, Y0 18, Y0 19, Z0 0, Z0 1], defers := [] } → Kept b w Wl0 → Fl b s0.2 Wl0 → Arr w.heap.size (row 43 g) Wl0 → Arr (w.heap.size + 1 + 1 + 1) (row 43 (fun _ => 0)) Wl0 → Arr w36.heap.size (row 6 r36.1) Wl0 → Arr w37.heap.size (row 36 r39.1) Wl0 → Arr Wl2.heap.size (row 43 s0.1) Wl0 → G_) → G_) := ⟨_, rfl⟩
           refine rounds_up J0 6 ?_ ?_ ?_
           ·refine give_act (fun a_ ea_ => ?_)
            rw [hJ0.out]
            intro G_ hG_
            exact hG_ ((fun _ => 0), r39.2) (zS a_ 0) (zS a_ 20) (zS a_ 40) (zS a_ 60) (zS a_ 80) (zS a_ 100) (zS a_ 120) (zS a_ 140) (zS a_ 160) (zS a_ 180) (zS a_ 200) (zS a_ 220) (zS a_ 240) (zS a_ 260) (zS a_ 280) (zS a_ 300) (zS a_ 320) rfl (by subst ea_; rfl) K40 BF_40 B0_40 B3_40 B14_40 B15_40 B16_40
           ·intro i a Wl0 hi hI R hR
            rw [hJ0.out] at hI
            refine hI _ ?_
            clear hI
            intro s0 A0 C0 D0 F0 G0 L0 M0 N0 O0 P0 Q0 R0 S0 T0 U0 Y0 Z0 El0 ea Kl0 BF_l0 B0_l0 B3_l0 B14_l0 B15_l0 B16_l0
            subst ea
            have zl0_BF := BF_l0.lies
            have zl0_B0 := B0_l0.lies
            have zl0_B3 := B3_l0.lies
            have zl0_B14 := B14_l0.lies
            have zl0_B15 := B15_l0.lies
            have zl0_B16 := B16_l0.lies
            go_wp2_with fail
            obtain ⟨J1, hJ1⟩ : ∃ J : Nat → Act → World → Prop, Hid (J = fun j a Wl1 => ∀ G_ : Prop, (∀ (s1 : (Nat → Int) × Bool) (A1 C1 D1 F1 G1 L1 M1 N1 O1 P1 Q1 R1 S1 T1 U1 Y1 Z1 : Nat → Value), Hid (fMeetS_l1 i r39 (s0.1, s0.2) j = s1) → a = { tmps := #[.pointer (some ⟨b, 0, none⟩), A1 1, A1 2, A1 3, A1 4, .pointer (some ⟨w.heap.size, 0, none⟩), A1 6, A1 7, .pointer (some ⟨w.heap.size + 1 + 1 + 1, 0, none⟩), A1 9, A1 10, A1 11, A1 12, A1 13, A1 14, A1 15, A1 16, A1 17, A1 18, A1 19, C1 0, C1 1, C1 2, C1 3, C1 4, C1 5, C1 6, C1 7, .int .i64 r32.1, C1 9, C1 10, C1 11, .pointer (some ⟨w36.heap.size, 0, none⟩), .pointer (some ⟨w37.heap.size, 0, none⟩), C1 14, C1 15, C1 16, C1 17, .pointer (some ⟨Wl2.heap.size, 0, none⟩), .int .i64 (i : Int), .int .i64 (j : Int), D1 1, D1 2, D1 3, D1 4, D1 5, D1 6, D1 7, D1 8, D1 9, D1 10, D1 11, D1 12, D1 13, D1 14, D1 15, D1 16, D1 17, D1 18, D1 19, F1 0, F1 1, F1 2, F1 3, F1 4, F1 5, F1 6, F1 7, F1 8, F1 9, F1 10, F1 11, F1 12, F1 13, F1 14, F1 15, F1 16, F1 17, F1 18, F1 19, G1 0, G1 1, G1 2, G1 3, G1 4, G1 5, G1 6, G1 7, G1 8, G1 9, G1 10, G1 11, G1 12, G1 13, G1 14, G1 15, G1 16, G1 17, G1 18, G1 19, L1 0, L1 1, L1 2, L1 3, L1 4, L1 5, L1 6, L1 7, L1 8, L1 9, L1 10, L1 11, L1 12, L1 13, L1 14, L1 15, L1 16, L1 17, L1 18, L1 19, M1 0, M1 1, M1 2, M1 3, M1 4, M1 5, M1 6, M1 7, M1 8, M1 9, M1 10, M1 11, M1 12, M1 13, M1 14, M1 15, M1 16, M1 17, M1 18, M1 19, N1 0, N1 1, N1 2, N1 3, N1 4, N1 5, N1 6, N1 7, N1 8, N1 9, N1 10, N1 11, N1 12, N1 13, N1 14, N1 15, N1 16, N1 17, N1 18, N1 19, O1 0, O1 1, O1 2, O1 3, O1 4, O1 5, O1 6, O1 7, O1 8, O1 9, O1 10, O1 11, O1 12, O1 13, O1 14, O1 15, O1 16, O1 17, O1 18, O1 19, P1 0, P1 1, P1 2, P1 3, P1 4, P1 5, P1 6, P1 7, P1 8, P1 9, P1 10, P1 11, P1 12, P1 13, P1 14, P1 15, P1 16, P1 17, P1 18, P1 19, Q1 0, Q1 1, Q1 2, Q1 3, Q1 4, Q1 5, Q1 6, Q1 7, Q1 8, Q1 9, Q1 10, Q1 11, Q1 12, Q1 13, Q1 14, Q1 15, Q1 16, Q1 17, Q1 18, Q1 19, R1 0, R1 1, R1 2, R1 3, R1 4, R1 5, R1 6, R1 7, R1 8, R1 9, R1 10, R1 11, R1 12, R1 13, R1 14, R1 15, R1 16, R1 17, R1 18, R1 19, S1 0, S1 1, S1 2, S1 3, S1 4, S1 5, S1 6, S1 7, S1 8, S1 9, S1 10, S1 11, S1 12, S1 13, S1 14, S1 15, S1 16, S1 17, S1 18, S1 19, T1 0, T1 1, T1 2, T1 3, T1 4, T1 5, T1 6, T1 7, T1 8, T1 9, T1 10, T1 11, T1 12, T1 13, T1 14, T1 15, T1 16, T1 17, T1 18, T1 19, U1 0, U1 1, U1 2, U1 3, U1 4, U1 5, U1 6, U1 7, U1 8, U1 9, U1 10, U1 11, U1 12, U1 13, U1 14, U1 15, U1 16, U1 17, U1 18, U1 19, Y1 0, Y1 1, Y1 2, Y1 3, Y1 4, Y1 5, Y1 6, Y1 7, Y1 8, Y1 9, Y1 10, Y1 11, Y1 12, Y1 13, Y1 14, Y1 15, Y1 16, Y1 17, Y1 18, Y1 19, Z1 0, Z1 1], defers := [] } → Kept b w Wl1 → Fl b s1.2 Wl1 → Arr w.heap.size (row 43 g) Wl1 → Arr (w.heap.size + 1 + 1 + 1) (row 43 (fun _ => 0)) Wl1 → Arr w36.heap.size (row 6 r36.1) Wl1 → Arr w37.heap.size (row 36 r39.1) Wl1 → Arr Wl2.heap.size (row 43 s1.1) Wl1 → G_) → G_) := ⟨_, rfl⟩
            refine rounds_up J1 6 ?_ ?_ ?_
            ·refine give_act (fun a_ ea_ => ?_)
             rw [hJ1.out]
             intro G_ hG_
             exact hG_ (s0.1, s0.2) (zS a_ 0) (zS a_ 20) (zS a_ 40) (zS a_ 60) (zS a_ 80) (zS a_ 100) (zS a_ 120) (zS a_ 140) (zS a_ 160) (zS a_ 180) (zS a_ 200) (zS a_ 220) (zS a_ 240) (zS a_ 260) (zS a_ 280) (zS a_ 300) (zS a_ 320) rfl (by subst ea_; rfl) Kl0 BF_l0 B0_l0 B3_l0 B14_l0 B15_l0 B16_l0
            ·intro j a Wl1 hj hI R hR
             rw [hJ1.out] at hI
             refine hI _ ?_
             clear hI
             intro s1 A1 C1 D1 F1 G1 L1 M1 N1 O1 P1 Q1 R1 S1 T1 U1 Y1 Z1 El1 ea Kl1 BF_l1 B0_l1 B3_l1 B14_l1 B15_l1 B16_l1
             subst ea
             have zl1_BF := BF_l1.lies
             have zl1_B0 := B0_l1.lies
             have zl1_B3 := B3_l1.lies
             have zl1_B14 := B14_l1.lies
             have zl1_B15 := B15_l1.lies
             have zl1_B16 := B16_l1.lies
             go_wp2_with fail
             refine wp_region_held_drew (S := fun w' => Arr w37.heap.size (row 36 r39.1) w') (by kernel_rfl) B15_l1.drew (fun zH => ?_)
             refine zT 0 rfl (by kernel_rfl) (fun _ _ _ => id) rfl (fun _ _ => by go_simp <;> with_reducible rfl) zH ?_
             simp only [Act.put, zA, zB, zC]
             refine zT 1 rfl (by kernel_rfl) (fun _ _ _ => id) rfl (fun _ _ => by go_simp <;> with_reducible rfl) zH ?_
             simp only [Act.put, zA, zB, zC]
             refine zT 2 rfl (by kernel_rfl) (fun _ _ _ => id) rfl (fun _ _ => by go_simp <;> with_reducible rfl) zH ?_
             simp only [Act.put, zA, zB, zC]
             refine zT 3 rfl (by kernel_rfl) (fun _ _ _ => id) rfl (fun _ _ => by go_simp <;> with_reducible rfl) zH ?_
             simp only [Act.put, zA, zB, zC]
             refine zT 4 rfl (by kernel_rfl) (fun _ _ _ => id) rfl (fun _ _ => by go_simp <;> with_reducible rfl) zH ?_
             simp only [Act.put, zA, zB, zC]
             refine zT 5 rfl (by kernel_rfl) (fun _ _ _ => id) rfl (fun _ _ => by go_simp <;> with_reducible rfl) zH ?_
             simp only [Act.put, zA, zB, zC]
             refine zT 6 rfl (by kernel_rfl) (fun _ _ _ => id) rfl (fun _ _ => by have hi0 : (i : Int) < 6 := (by omega); go_simp <;> with_reducible rfl) zH ?_
             simp only [Act.put, zA, zB, zC]
             refine zT 7 rfl (by kernel_rfl) (fun _ _ _ => id) rfl (fun _ _ => by have hi0 : (j : Int) < 6 := (by omega); go_simp <;> with_reducible rfl) zH ?_
             simp only [Act.put, zA, zB, zC]
             refine zT 8 rfl (by kernel_rfl) (fun _ _ _ => id) rfl (fun wx hS => by have hc0 : wx.cell? ⟨w37.heap.size, i * 6 + j, none⟩ = some (.int .i64 (r39.1 (i * 6 + j))) := row_c hS (i * 6 + j) (by omega); go_simp <;> with_reducible rfl) zH ?_
             simp only [Act.put, zA, zB, zC]
             refine zT 9 rfl (by kernel_rfl) (fun _ _ _ => id) rfl (fun _ _ => by go_simp <;> with_reducible rfl) zH ?_
             simp only [Act.put, zA, zB, zC]
             refine zT 10 rfl (by kernel_rfl) (fun _ _ _ => id) rfl (fun _ _ => by go_simp <;> with_reducible rfl) zH ?_
             simp only [Act.put, zA, zB, zC]
             refine zT 11 rfl (by kernel_rfl) (fun _ _ _ => id) rfl (fun _ _ => by have hi0 : (j : Int) < 6 := (by omega); go_simp <;> with_reducible rfl) zH ?_
             simp only [Act.put, zA, zB, zC]
             refine zT 12 rfl (by kernel_rfl) (fun _ _ _ => id) rfl (fun _ _ => by have hi0 : (i : Int) < 6 := (by omega); go_simp <;> with_reducible rfl) zH ?_
             simp only [Act.put, zA, zB, zC]
             refine zT 13 rfl (by kernel_rfl) (fun _ _ _ => id) rfl (fun wx hS => by have hc0 : wx.cell? ⟨w37.heap.size, j * 6 + i, none⟩ = some (.int .i64 (r39.1 (j * 6 + i))) := row_c hS (j * 6 + i) (by omega); go_simp <;> with_reducible rfl) zH ?_
             simp only [Act.put, zA, zB, zC]
             refine zT 16 rfl (by kernel_rfl) (fun _ _ _ => id) rfl (fun _ _ => by go_simp <;> with_reducible rfl) zH ?_
             simp only [Act.put, zA, zB, zC]
             refine zT 17 rfl (by kernel_rfl) (fun _ _ _ => id) rfl (fun _ _ => by have hi0 : (i : Int) < 6 := (by omega); go_simp <;> with_reducible rfl) zH ?_
             simp only [Act.put, zA, zB, zC]
             refine zK 14 (by kernel_rfl) rfl (fun K hK => ?_)
             go_simp
             refine (rAdd_any b s1.2 (r39.1 (i * 6 + j)) (r39.1 (j * 6 + i)) _ BF_l1.drew).mono ?_
             rintro e w41 ⟨rfl, f41, k41⟩
             generalize e41 : addS s1.2 (r39.1 (i * 6 + j)) (r39.1 (j * 6 + i)) = r41 at f41 ⊢
             have E41 : Hid _ := e41
             clear e41
             have K41 : Kept b w w41 := Kept.trans Kl1.drew k41
             have B0_41 := B0_l1.drew.kept k41 (zG y1_BF)
             have B3_41 := B3_l1.drew.kept k41 (zG y4_BF)
             have B14_41 := B14_l1.drew.kept k41 (zG y21_BF)
             have B15_41 := B15_l1.drew.kept k41 (zG y22_BF)
             have B16_41 := B16_l1.drew.kept k41 (zG y23_BF)
             have z41 := B16_41.lies
             clear zH
             refine hK.out _ _ B15_41 (fun zH => ?_)
             clear hK K BF_l1 B0_l1 B3_l1 B14_l1 B15_l1 B16_l1 k41
             refine zK 15 (by kernel_rfl) rfl (fun K hK => ?_)
             go_simp
             refine (rPart_any b r41.2 r41.1 1 2 _ f41).mono ?_
             rintro e w42 ⟨rfl, f42, k42⟩
             generalize e42 : partS r41.2 r41.1 1 2 = r42 at f42 ⊢
             have E42 : Hid _ := e42
             clear e42
             have K42 := Kept.trans K41 k42
             have B0_42 := B0_41.kept k42 (zG y1_BF)
             have B3_42 := B3_41.kept k42 (zG y4_BF)
             have B14_42 := B14_41.kept k42 (zG y21_BF)
             have B15_42 := B15_41.kept k42 (zG y22_BF)
             have B16_42 := B16_41.kept k42 (zG y23_BF)
             have z42 := B16_42.lies
             clear zH
             refine hK.out _ _ B15_42 (fun zH => ?_)
             clear hK K K41 f41 B0_41 B3_41 B14_41 B15_41 B16_41 k42
             refine zT 18 rfl (by kernel_rfl) (fun _ _ _ => id) rfl (fun _ _ => by have hi0 : (j : Int) < 6 := (by omega); go_simp <;> with_reducible rfl) zH ?_
             simp only [Act.put, zA, zB, zC]
             refine zK 19 (by kernel_rfl) rfl (fun K hK => ?_)
             have c57_B16_0 : w42.cell? ⟨Wl2.heap.size, 7 + i * 6 + j, none⟩ = some (.int .i64 (s1.1 (7 + i * 6 + j))) := row_c B16_42 (7 + i * 6 + j) (by omega)
             have g57_B16_1 := row_f B16_42 (7 + i * 6 + j) (by omega)
             go_simp
             clear zH
             refine hK.out _ _ (B15_42.new Wl2.heap.size (7 + i * 6 + j) (zL y23_B15) (.int .i64 r42.1)) (fun zH => ?_)
             clear hK K c57_B16_0 g57_B16_1
             refine wpAnyH_done (by kernel_rfl) ?_ _
             clear zH
             go_wp2_with fail
             have hs1 : Hid (fMeetS_l1 i r39 (s0.1, s0.2) (j + 1) = ((updF s1.1 (7 + i * 6 + j) r42.1), r42.2)) := by show _ = _; rw [fMeetS_l1_succ]; unfold fMeetS_l1s; simp only [El1.out, E41.out, E42.out]
             refine give_act (fun a_ ea_ => ?_)
             rw [hJ1.out]
             intro G_ hG_
             exact hG_ ((updF s1.1 (7 + i * 6 + j) r42.1), r42.2) (zS a_ 0) (zS a_ 20) (zS a_ 40) (zS a_ 60) (zS a_ 80) (zS a_ 100) (zS a_ 120) (zS a_ 140) (zS a_ 160) (zS a_ 180) (zS a_ 200) (zS a_ 220) (zS a_ 240) (zS a_ 260) (zS a_ 280) (zS a_ 300) (zS a_ 320) hs1 (by subst ea_; rfl) (K42.new _ _ (by omega) _) (f42.new Wl2.heap.size (7 + i * 6 + j) (zL y23_BF) (.int .i64 r42.1)) (B0_42.new Wl2.heap.size (7 + i * 6 + j) (zL y23_B0) (.int .i64 r42.1)) (B3_42.new Wl2.heap.size (7 + i * 6 + j) (zL y23_B3) (.int .i64 r42.1)) (B14_42.new Wl2.heap.size (7 + i * 6 + j) (zL y23_B14) (.int .i64 r42.1)) (B15_42.new Wl2.heap.size (7 + i * 6 + j) (zL y23_B15) (.int .i64 r42.1)) (row_put B16_42 (7 + i * 6 + j) (by omega) r42.1)
            ·intro a Wl1 hI R
             rw [hJ1.out] at hI
             refine hI _ ?_
             clear hI hJ1
             intro r43 A1 C1 D1 F1 G1 L1 M1 N1 O1 P1 Q1 R1 S1 T1 U1 Y1 Z1 E43 ea Kl1 BF_l1 B0_l1 B3_l1 B14_l1 B15_l1 B16_l1
             subst ea
             have zl1_BF := BF_l1.lies
             have zl1_B0 := B0_l1.lies
             have zl1_B3 := B3_l1.lies
             have zl1_B14 := B14_l1.lies
             have zl1_B15 := B15_l1.lies
             have zl1_B16 := B16_l1.lies
             go_wp2_with fail
             have hs0 : Hid (fMeetS_l0 r39 ((fun _ => 0), r39.2) (i + 1) = (r43.1, r43.2)) := by show _ = _; rw [fMeetS_l0_succ]; unfold fMeetS_l0s; simp only [El0.out, E43.out]
             refine give_act (fun a_ ea_ => ?_)
             rw [hJ0.out]
             intro G_ hG_
             exact hG_ (r43.1, r43.2) (zS a_ 0) (zS a_ 20) (zS a_ 40) (zS a_ 60) (zS a_ 80) (zS a_ 100) (zS a_ 120) (zS a_ 140) (zS a_ 160) (zS a_ 180) (zS a_ 200) (zS a_ 220) (zS a_ 240) (zS a_ 260) (zS a_ 280) (zS a_ 300) (zS a_ 320) hs0 (by subst ea_; rfl) Kl1 BF_l1 B0_l1 B3_l1 B14_l1 B15_l1 B16_l1
           ·intro a Wl0 hI R
            rw [hJ0.out] at hI
            refine hI _ ?_
            clear hI hJ0
            intro r41 A0 C0 D0 F0 G0 L0 M0 N0 O0 P0 Q0 R0 S0 T0 U0 Y0 Z0 E41 ea Kl0 BF_l0 B0_l0 B3_l0 B14_l0 B15_l0 B16_l0
            subst ea
            have zl0_BF := BF_l0.lies
            have zl0_B0 := B0_l0.lies
            have zl0_B3 := B3_l0.lies
            have zl0_B14 := B14_l0.lies
            have zl0_B15 := B15_l0.lies
            have zl0_B16 := B16_l0.lies
            go_wp2_with fail
            refine wp_region_held_drew (S := fun w' => Arr w36.heap.size (row 6 r36.1) w' ∧ Arr w.heap.size (row 43 g) w') (by kernel_rfl) ⟨B14_l0.drew, B0_l0.drew⟩ (fun zH => ?_)
            refine zT 0 rfl (by kernel_rfl) (fun _ _ _ => id) rfl (fun _ _ => by go_simp <;> with_reducible rfl) zH ?_
            simp only [Act.put, zA, zB, zC]
            refine zT 1 rfl (by kernel_rfl) (fun _ _ _ => id) rfl (fun _ _ => by go_simp <;> with_reducible rfl) zH ?_
            simp only [Act.put, zA, zB, zC]
            refine zT 2 rfl (by kernel_rfl) (fun _ _ _ => id) rfl (fun _ _ => by go_simp <;> with_reducible rfl) zH ?_
            simp only [Act.put, zA, zB, zC]
            refine take_at (i := 3) rfl (by kernel_rfl) (by kernel_rfl) (by kernel_rfl) (fun _ _ _ h => h) (row_yield (by rfl) rfl rfl (fun _ hS => hS.1) (by kernel_rfl) (by rw [row_len]; kernel_rfl)) zH ?_
            simp only [Act.put, zA, zB, zC]
            refine zT 6 rfl (by kernel_rfl) (fun _ _ _ => id) rfl (fun _ _ => by go_simp <;> with_reducible rfl) zH ?_
            simp only [Act.put, zA, zB, zC]
            refine zT 7 rfl (by kernel_rfl) (fun _ _ _ => id) rfl (fun wx hS => by have hc0 : wx.cell? ⟨w.heap.size, 0, none⟩ = some (.int .i64 (g 0)) := row_c hS.2 0 (by omega); have hc1 : wx.cell? ⟨w.heap.size, 1, none⟩ = some (.int .i64 (g 1)) := row_c hS.2 1 (by omega); have hc2 : wx.cell? ⟨w.heap.size, 2, none⟩ = some (.int .i64 (g 2)) := row_c hS.2 2 (by omega); have hc3 : wx.cell? ⟨w.heap.size, 3, none⟩ = some (.int .i64 (g 3)) := row_c hS.2 3 (by omega); go_simp <;> with_reducible rfl) zH ?_
            simp only [Act.put, zA, zB, zC]
            refine zK 4 (by kernel_rfl) rfl (fun K hK => ?_)
            go_simp
            refine (ffirst_any r36.1 _).mono ?_
            rintro e w42 ⟨rfl, k42⟩
            generalize e42 : ffirstP r36.1 = r42
            have E42 : Hid _ := e42
            clear e42
            have K42 : Kept b w w42 := Kept.trans Kl0.drew (Kept.of_below k42)
            have BF_42 := BF_l0.drew.below k42
            have B0_42 := B0_l0.drew.below k42
            have B3_42 := B3_l0.drew.below k42
            have B14_42 := B14_l0.drew.below k42
            have B16_42 := B16_l0.drew.below k42
            have z42 := B16_42.lies
            clear zH
            refine hK.out _ _ ⟨B14_42, B0_42⟩ (fun zH => ?_)
            clear hK K BF_l0 B0_l0 B3_l0 B14_l0 B16_l0 k42
            refine zK 5 (by kernel_rfl) rfl (fun K hK => ?_)
            go_simp
            refine (yFromRod_any b r41.2 r42 _ BF_42).mono ?_
            rintro e w43 ⟨rfl, f43, k43⟩
            generalize e43 : qFromRodS r41.2 r42 = r43 at f43 ⊢
            have E43 : Hid _ := e43
            clear e43
            have K43 := Kept.trans K42 k43
            have B0_43 := B0_42.kept k43 (zG y1_BF)
            have B3_43 := B3_42.kept k43 (zG y4_BF)
            have B14_43 := B14_42.kept k43 (zG y21_BF)
            have B16_43 := B16_42.kept k43 (zG y23_BF)
            have z43 := B16_43.lies
            clear zH
            refine hK.out _ _ ⟨B14_43, B0_43⟩ (fun zH => ?_)
            clear hK K K42 BF_42 B0_42 B3_42 B14_42 B16_42 k43
            refine zK 8 (by kernel_rfl) rfl (fun K hK => ?_)
            go_simp
            refine (yMul_any b r43.2 r43.1 ((g 0), (g 1), (g 2), (g 3)) _ f43).mono ?_
            rintro e w44 ⟨rfl, f44, k44⟩
            generalize e44 : qMulS r43.2 r43.1 ((g 0), (g 1), (g 2), (g 3)) = r44 at f44 ⊢
            have E44 : Hid _ := e44
            clear e44
            have K44 := Kept.trans K43 k44
            have B0_44 := B0_43.kept k44 (zG y1_BF)
            have B3_44 := B3_43.kept k44 (zG y4_BF)
            have B14_44 := B14_43.kept k44 (zG y21_BF)
            have B16_44 := B16_43.kept k44 (zG y23_BF)
            have z44 := B16_44.lies
            clear zH
            refine hK.out _ _ ⟨B14_44, B0_44⟩ (fun zH => ?_)
            clear hK K K43 f43 B0_43 B3_43 B14_43 B16_43 k44
            refine zK 9 (by kernel_rfl) rfl (fun K hK => ?_)
            go_simp
            refine (yUnit_any b r44.2 r44.1 _ f44).mono ?_
            rintro e w45 ⟨rfl, f45, k45⟩
            generalize e45 : qUnitS r44.2 r44.1 = r45 at f45 ⊢
            have E45 : Hid _ := e45
            clear e45
            have K45 := Kept.trans K44 k45
            have B0_45 := B0_44.kept k45 (zG y1_BF)
            have B3_45 := B3_44.kept k45 (zG y4_BF)
            have B14_45 := B14_44.kept k45 (zG y21_BF)
            have B16_45 := B16_44.kept k45 (zG y23_BF)
            have z45 := B16_45.lies
            clear zH
            refine hK.out _ _ ⟨B14_45, B0_45⟩ (fun zH => ?_)
            clear hK K K44 f44 B0_44 B3_44 B14_44 B16_44 k45
            refine zT 10 rfl (by kernel_rfl) (fun _ _ _ => id) rfl (fun _ _ => by go_simp <;> with_reducible rfl) zH ?_
            simp only [Act.put, zA, zB, zC]
            refine zK 11 (by kernel_rfl) rfl (fun K hK => ?_)
            have c57_B16_0 : w45.cell? ⟨Wl2.heap.size, 0, none⟩ = some (.int .i64 (r41.1 0)) := row_c B16_45 0 (by omega)
            have c57_B16_1 : w45.cell? ⟨Wl2.heap.size, 1, none⟩ = some (.int .i64 (r41.1 1)) := row_c B16_45 1 (by omega)
            have c57_B16_2 : w45.cell? ⟨Wl2.heap.size, 2, none⟩ = some (.int .i64 (r41.1 2)) := row_c B16_45 2 (by omega)
            have c57_B16_3 : w45.cell? ⟨Wl2.heap.size, 3, none⟩ = some (.int .i64 (r41.1 3)) := row_c B16_45 3 (by omega)
            have g57_B16_4 := row_f B16_45 0 (by omega)
            have g57_B16_5 := row_f B16_45 1 (by omega)
            have g57_B16_6 := row_f B16_45 2 (by omega)
            have g57_B16_7 := row_f B16_45 3 (by omega)
            go_simp
            clear zH
            refine hK.out _ _ ⟨((((B14_45.new Wl2.heap.size 0 (zL y23_B14) (.int .i64 r45.1.1)).new Wl2.heap.size 1 (zL y23_B14) (.int .i64 r45.1.2.1)).new Wl2.heap.size 2 (zL y23_B14) (.int .i64 r45.1.2.2.1)).new Wl2.heap.size 3 (zL y23_B14) (.int .i64 r45.1.2.2.2)), ((((B0_45.new Wl2.heap.size 0 (zL y23_B0) (.int .i64 r45.1.1)).new Wl2.heap.size 1 (zL y23_B0) (.int .i64 r45.1.2.1)).new Wl2.heap.size 2 (zL y23_B0) (.int .i64 r45.1.2.2.1)).new Wl2.heap.size 3 (zL y23_B0) (.int .i64 r45.1.2.2.2))⟩ (fun zH => ?_)
            clear hK K c57_B16_0 c57_B16_1 c57_B16_2 c57_B16_3 g57_B16_4 g57_B16_5 g57_B16_6 g57_B16_7
            refine wpAnyH_done (by kernel_rfl) ?_ _
            clear zH
            go_wp2_with fail
            refine code_letter (S := fun w' => Kept b w w' ∧ Fl b r45.2 w' ∧ Arr w.heap.size (row 43 g) w' ∧ Arr (w.heap.size + 1 + 1 + 1) (row 43 (fun _ => 0)) w' ∧ Arr w36.heap.size (row 6 r36.1) w' ∧ Arr Wl2.heap.size (row 43 (updF (updF (updF (updF r41.1 0 r45.1.1) 1 r45.1.2.1) 2 r45.1.2.2.1) 3 r45.1.2.2.2)) w') ⟨((((K45.new _ _ (by omega) _).new _ _ (by omega) _).new _ _ (by omega) _).new _ _ (by omega) _), ((((f45.new Wl2.heap.size 0 (zL y23_BF) (.int .i64 r45.1.1)).new Wl2.heap.size 1 (zL y23_BF) (.int .i64 r45.1.2.1)).new Wl2.heap.size 2 (zL y23_BF) (.int .i64 r45.1.2.2.1)).new Wl2.heap.size 3 (zL y23_BF) (.int .i64 r45.1.2.2.2)), ((((B0_45.new Wl2.heap.size 0 (zL y23_B0) (.int .i64 r45.1.1)).new Wl2.heap.size 1 (zL y23_B0) (.int .i64 r45.1.2.1)).new Wl2.heap.size 2 (zL y23_B0) (.int .i64 r45.1.2.2.1)).new Wl2.heap.size 3 (zL y23_B0) (.int .i64 r45.1.2.2.2)), ((((B3_45.new Wl2.heap.size 0 (zL y23_B3) (.int .i64 r45.1.1)).new Wl2.heap.size 1 (zL y23_B3) (.int .i64 r45.1.2.1)).new Wl2.heap.size 2 (zL y23_B3) (.int .i64 r45.1.2.2.1)).new Wl2.heap.size 3 (zL y23_B3) (.int .i64 r45.1.2.2.2)), ((((B14_45.new Wl2.heap.size 0 (zL y23_B14) (.int .i64 r45.1.1)).new Wl2.heap.size 1 (zL y23_B14) (.int .i64 r45.1.2.1)).new Wl2.heap.size 2 (zL y23_B14) (.int .i64 r45.1.2.2.1)).new Wl2.heap.size 3 (zL y23_B14) (.int .i64 r45.1.2.2.2)), (row_put (row_put (row_put (row_put B16_45 0 (by omega) r45.1.1) 1 (by omega) r45.1.2.1) 2 (by omega) r45.1.2.2.1) 3 (by omega) r45.1.2.2.2)⟩ ?_
            rintro w46 ⟨K46, BF_46, B0_46, B3_46, B14_46, B16_46⟩
            have z46 := B16_46.lies
            clear K45 f45 B0_45 B3_45 B14_45 B16_45
            refine wp_region_held_drew (S := fun w' => Arr w.heap.size (row 43 g) w' ∧ Arr w36.heap.size (row 6 r36.1) w') (by kernel_rfl) ⟨B0_46.drew, B14_46.drew⟩ (fun zH => ?_)
            refine zT 0 rfl (by kernel_rfl) (fun _ _ _ => id) rfl (fun _ _ => by go_simp <;> with_reducible rfl) zH ?_
            simp only [Act.put, zA, zB, zC]
            refine zT 1 rfl (by kernel_rfl) (fun _ _ _ => id) rfl (fun _ _ => by go_simp <;> with_reducible rfl) zH ?_
            simp only [Act.put, zA, zB, zC]
            refine zT 2 rfl (by kernel_rfl) (fun _ _ _ => id) rfl (fun wx hS => by have hc0 : wx.cell? ⟨w.heap.size, 4, none⟩ = some (.int .i64 (g 4)) := row_c hS.1 4 (by omega); have hc1 : wx.cell? ⟨w.heap.size, 5, none⟩ = some (.int .i64 (g 5)) := row_c hS.1 5 (by omega); have hc2 : wx.cell? ⟨w.heap.size, 6, none⟩ = some (.int .i64 (g 6)) := row_c hS.1 6 (by omega); go_simp <;> with_reducible rfl) zH ?_
            simp only [Act.put, zA, zB, zC]
            refine take_at (i := 3) rfl (by kernel_rfl) (by kernel_rfl) (by kernel_rfl) (fun _ _ _ h => h) (row_yield (by rfl) rfl rfl (fun _ hS => hS.2) (by kernel_rfl) (by rw [row_len]; kernel_rfl)) zH ?_
            simp only [Act.put, zA, zB, zC]
            refine zK 4 (by kernel_rfl) rfl (fun K hK => ?_)
            go_simp
            refine (flast_any r36.1 _).mono ?_
            rintro e w47 ⟨rfl, k47⟩
            generalize e47 : flastP r36.1 = r47
            have E47 : Hid _ := e47
            clear e47
            have K47 : Kept b w w47 := Kept.trans K46.drew (Kept.of_below k47)
            have BF_47 := BF_46.drew.below k47
            have B0_47 := B0_46.drew.below k47
            have B3_47 := B3_46.drew.below k47
            have B14_47 := B14_46.drew.below k47
            have B16_47 := B16_46.drew.below k47
            have z47 := B16_47.lies
            clear zH
            refine hK.out _ _ ⟨B0_47, B14_47⟩ (fun zH => ?_)
            clear hK K K46 BF_46 B0_46 B3_46 B14_46 B16_46 k47
            refine zK 5 (by kernel_rfl) rfl (fun K hK => ?_)
            go_simp
            refine (xAdd_any b r45.2 ((g 4), (g 5), (g 6)) r47 _ BF_47).mono ?_
            rintro e w48 ⟨rfl, f48, k48⟩
            generalize e48 : vAddS r45.2 ((g 4), (g 5), (g 6)) r47 = r48 at f48 ⊢
            have E48 : Hid _ := e48
            clear e48
            have K48 := Kept.trans K47 k48
            have B0_48 := B0_47.kept k48 (zG y1_BF)
            have B3_48 := B3_47.kept k48 (zG y4_BF)
            have B14_48 := B14_47.kept k48 (zG y21_BF)
            have B16_48 := B16_47.kept k48 (zG y23_BF)
            have z48 := B16_48.lies
            clear zH
            refine hK.out _ _ ⟨B0_48, B14_48⟩ (fun zH => ?_)
            clear hK K K47 BF_47 B0_47 B3_47 B14_47 B16_47 k48
            refine zT 6 rfl (by kernel_rfl) (fun _ _ _ => id) rfl (fun _ _ => by go_simp <;> with_reducible rfl) zH ?_
            simp only [Act.put, zA, zB, zC]
            refine zK 7 (by kernel_rfl) rfl (fun K hK => ?_)
            have c59_B16_0 : w48.cell? ⟨Wl2.heap.size, 4, none⟩ = some (.int .i64 ((updF (updF (updF (updF r41.1 0 r45.1.1) 1 r45.1.2.1) 2 r45.1.2.2.1) 3 r45.1.2.2.2) 4)) := row_c B16_48 4 (by omega)
            have c59_B16_1 : w48.cell? ⟨Wl2.heap.size, 5, none⟩ = some (.int .i64 ((updF (updF (updF (updF r41.1 0 r45.1.1) 1 r45.1.2.1) 2 r45.1.2.2.1) 3 r45.1.2.2.2) 5)) := row_c B16_48 5 (by omega)
            have c59_B16_2 : w48.cell? ⟨Wl2.heap.size, 6, none⟩ = some (.int .i64 ((updF (updF (updF (updF r41.1 0 r45.1.1) 1 r45.1.2.1) 2 r45.1.2.2.1) 3 r45.1.2.2.2) 6)) := row_c B16_48 6 (by omega)
            have g59_B16_3 := row_f B16_48 4 (by omega)
            have g59_B16_4 := row_f B16_48 5 (by omega)
            have g59_B16_5 := row_f B16_48 6 (by omega)
            go_simp
            clear zH
            refine hK.out _ _ ⟨(((B0_48.new Wl2.heap.size 4 (zL y23_B0) (.int .i64 r48.1.1)).new Wl2.heap.size 5 (zL y23_B0) (.int .i64 r48.1.2.1)).new Wl2.heap.size 6 (zL y23_B0) (.int .i64 r48.1.2.2)), (((B14_48.new Wl2.heap.size 4 (zL y23_B14) (.int .i64 r48.1.1)).new Wl2.heap.size 5 (zL y23_B14) (.int .i64 r48.1.2.1)).new Wl2.heap.size 6 (zL y23_B14) (.int .i64 r48.1.2.2))⟩ (fun zH => ?_)
            clear hK K c59_B16_0 c59_B16_1 c59_B16_2 g59_B16_3 g59_B16_4 g59_B16_5
            refine wpAnyH_done (by kernel_rfl) ?_ _
            clear zH
            rcases Bool.eq_false_or_eq_true r48.2 with hc3 | hc3
            ·have Hhc3 : Hid (r48.2 = true) := hc3
             have c60_BF := f48.cell
             go_wp2_with (refine store_stop rfl (by kernel_rfl) ?_)
             clear c60_BF
             refine Stop.mk (store_row (l' := row 43 (fun _ => 0)) rfl rfl rfl rfl (((B3_48.new Wl2.heap.size 4 (zL y23_B3) (.int .i64 r48.1.1)).new Wl2.heap.size 5 (zL y23_B3) (.int .i64 r48.1.2.1)).new Wl2.heap.size 6 (zL y23_B3) (.int .i64 r48.1.2.2)) (by simp only [row_len]) (by rw [row_len]; kernel_rfl) (row_one _ _) ?_)
             intro w49 B3_49 o49
             have K49 : Kept b w w49 := Kept.off (((K48.new Wl2.heap.size 4 (by omega) (.int .i64 r48.1.1)).new Wl2.heap.size 5 (by omega) (.int .i64 r48.1.2.1)).new Wl2.heap.size 6 (by omega) (.int .i64 r48.1.2.2)) o49 (by omega)
             have BF_49 := (((f48.new Wl2.heap.size 4 (zL y23_BF) (.int .i64 r48.1.1)).new Wl2.heap.size 5 (zL y23_BF) (.int .i64 r48.1.2.1)).new Wl2.heap.size 6 (zL y23_BF) (.int .i64 r48.1.2.2)).off o49 (zL y4_BF)
             have z49_B3 := B3_49.lies
             have z49_BF := BF_49.lies
             clear K48 B3_48 f48 o49
             go_wp2_with (with_reducible refine post_stop ?_)
             refine Stop.mk ?_
             refine bodyPost_ret (v := .tuple #[.agg (row 43 (fun _ => 0)).toArray, .int .i64 0, .bool false]) (results_arr2t Tryz.results9 B3_49 rfl rfl rfl (by kernel_rfl) (by rw [row_len]; kernel_rfl)) rfl ?_
             have hs : fMeetS bad g sky body = (((fun _ => 0), 0, false), r48.2) := by unfold fMeetS; simp only [E2.out, E3.out, E5.out, E6.out, E8.out, E11.out, E13.out, E14.out, E18.out, E22.out, E23.out, E25.out, E26.out, E28.out, E32.out, E35.out, E36.out, E39.out, E41.out, E42.out, E43.out, E44.out, E45.out, E47.out, E48.out]; rw [if_neg (by rw [Hhc1.out]; decide)]; rw [if_neg (by have := Hhc2.out; omega)]; rw [if_pos Hhc3.out]
             rw [hs]
             exact ⟨rfl, BF_49, K49⟩
            ·have Hhc3 : Hid (r48.2 = false) := hc3
             have c60_BF := f48.cell
             go_wp2_with (first | (refine row_load rfl rfl rfl (row_put (row_put (row_put B16_48 4 (by omega) r48.1.1) 5 (by omega) r48.1.2.1) 6 (by omega) r48.1.2.2) (by kernel_rfl) (by rw [row_len]; kernel_rfl) ?_) | (refine store_stop rfl (by kernel_rfl) ?_))
             clear c60_BF
             refine Stop.mk (store_row (l' := row 43 (updF (updF (updF (updF (updF (updF (updF r41.1 0 r45.1.1) 1 r45.1.2.1) 2 r45.1.2.2.1) 3 r45.1.2.2.2) 4 r48.1.1) 5 r48.1.2.1) 6 r48.1.2.2)) rfl rfl rfl rfl (((B3_48.new Wl2.heap.size 4 (zL y23_B3) (.int .i64 r48.1.1)).new Wl2.heap.size 5 (zL y23_B3) (.int .i64 r48.1.2.1)).new Wl2.heap.size 6 (zL y23_B3) (.int .i64 r48.1.2.2)) (by simp only [row_len]) (by rw [row_len]; kernel_rfl) (row_one _ _) ?_)
             intro w49 B3_49 o49
             have K49 : Kept b w w49 := Kept.off (((K48.new Wl2.heap.size 4 (by omega) (.int .i64 r48.1.1)).new Wl2.heap.size 5 (by omega) (.int .i64 r48.1.2.1)).new Wl2.heap.size 6 (by omega) (.int .i64 r48.1.2.2)) o49 (by omega)
             have BF_49 := (((f48.new Wl2.heap.size 4 (zL y23_BF) (.int .i64 r48.1.1)).new Wl2.heap.size 5 (zL y23_BF) (.int .i64 r48.1.2.1)).new Wl2.heap.size 6 (zL y23_BF) (.int .i64 r48.1.2.2)).off o49 (zL y4_BF)
             have B16_49 := (row_put (row_put (row_put B16_48 4 (by omega) r48.1.1) 5 (by omega) r48.1.2.1) 6 (by omega) r48.1.2.2).off o49 (zG y23_B3)
             have z49_B3 := B3_49.lies
             have z49_BF := BF_49.lies
             have z49_B16 := B16_49.lies
             clear K48 B3_48 f48 B16_48 o49
             go_wp2_with (with_reducible refine post_stop ?_)
             refine Stop.mk ?_
             refine bodyPost_ret (v := .tuple #[.agg (row 43 (updF (updF (updF (updF (updF (updF (updF r41.1 0 r45.1.1) 1 r45.1.2.1) 2 r45.1.2.2.1) 3 r45.1.2.2.2) 4 r48.1.1) 5 r48.1.2.1) 6 r48.1.2.2)).toArray, .int .i64 r32.1, .bool true]) (results_arr2t Tryz.results9 B3_49 rfl rfl rfl (by kernel_rfl) (by rw [row_len]; kernel_rfl)) rfl ?_
             have hs : fMeetS bad g sky body = (((updF (updF (updF (updF (updF (updF (updF r41.1 0 r45.1.1) 1 r45.1.2.1) 2 r45.1.2.2.1) 3 r45.1.2.2.2) 4 r48.1.1) 5 r48.1.2.1) 6 r48.1.2.2), r32.1, true), r48.2) := by unfold fMeetS; simp only [E2.out, E3.out, E5.out, E6.out, E8.out, E11.out, E13.out, E14.out, E18.out, E22.out, E23.out, E25.out, E26.out, E28.out, E32.out, E35.out, E36.out, E39.out, E41.out, E42.out, E43.out, E44.out, E45.out, E47.out, E48.out]; rw [if_neg (by rw [Hhc1.out]; decide)]; rw [if_neg (by have := Hhc2.out; omega)]; rw [if_neg (by rw [Hhc3.out]; decide)]
             rw [hs]
             exact ⟨rfl, BF_49, K49⟩
end Go.Proofs.YtpjobkbefgehjaaGreat
