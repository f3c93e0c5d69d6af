/-
  ModeSafe, walked, for the seat Ytocnaflhedccpaa. (Made by mkmode.py.)
-/
import Derived.Test.YtocnaflhedccpaaMdAwake
namespace Go.Proofs.Ytocnaflhedccpaa
open Go.RowKit

set_option maxRecDepth 100000 in
set_option maxHeartbeats 4000000 in
theorem ModeSafe_any (p : Pl) (s : Sn) (w : World) (hp : WfPl p) : Calls Try.prog 6 #[.agg #[.int .i64 p.mode, .int .i64 p.calm, .int .i64 p.good, .int .i64 p.miss, .int .i64 p.lost, .int .i64 p.faults], .agg #[.bool s.gap, .bool s.gyro, .bool s.slow, .bool s.pair, .bool s.lit, .bool s.bad, .bool s.pass, .int .i64 s.order]] w fun e w' => e = .returned (.bool true) ∧ Below w.heap.size w w' := by
  obtain ⟨m, c, g, i, l, f⟩ := p
  obtain ⟨gap, gyro, slow, pair, lit, bad, pass, o⟩ := s
  dsimp only
  by_cases o1 : o = 1
  · subst o1
    have h1 := fun W => next_any m c g i l f gap gyro slow pair lit bad pass 1 W hp.c hp.g hp.i hp.l
    rw [show nextS ⟨m, c, g, i, l, f⟩ ⟨gap, gyro, slow, pair, lit, bad, pass, 1⟩ = ⟨3, 0, 0, 0, 0, f⟩ from rfl] at h1
    have h2 := fun W => next_any 3 c g i l f gap gyro slow pair lit bad pass 1 W hp.c hp.g hp.i hp.l
    rw [show nextS ⟨3, c, g, i, l, f⟩ ⟨gap, gyro, slow, pair, lit, bad, pass, 1⟩ = ⟨3, 0, 0, 0, 0, f⟩ from rfl] at h2
    unfold plV at h1 h2
    clear hp
    go_enter Try.func6, Try.ntmps6
    go_wp2_with fail
    refine (awake_any _).mono ?_
    rintro e w1 ⟨rfl, b1⟩
    have A0_1 : Arr w.heap.size [.int .i64 m, .int .i64 c, .int .i64 g, .int .i64 i, .int .i64 l, .int .i64 f] w1 := ((Arr_at w _ [.int .i64 m, .int .i64 c, .int .i64 g, .int .i64 i, .int .i64 l, .int .i64 f] 23 rfl).alloc _).below b1
    have A1_1 : Arr (w.heap.size + 1) [.bool gap, .bool gyro, .bool slow, .bool pair, .bool lit, .bool bad, .bool pass, .int .i64 1] w1 := (Arr_at _ _ [.bool gap, .bool gyro, .bool slow, .bool pair, .bool lit, .bool bad, .bool pass, .int .i64 1] 25 (by simp)).below b1
    have K1 : Below w.heap.size w w1 := bel_then (bel_al (bel_al (Below.refl w.heap.size w) _) _) b1
    have z1 := A1_1.lies
    have z0 := A0_1.lies
    clear b1
    have cp_0 : w1.cell? ⟨w.heap.size, 0, none⟩ = some (.int .i64 m) := A0_1.c 0 (of_decide_eq_true rfl)
    have gp_0 := A0_1.f 0 (of_decide_eq_true rfl)
    have cp_1 : w1.cell? ⟨w.heap.size, 1, none⟩ = some (.int .i64 c) := A0_1.c 1 (of_decide_eq_true rfl)
    have gp_1 := A0_1.f 1 (of_decide_eq_true rfl)
    have cp_2 : w1.cell? ⟨w.heap.size, 2, none⟩ = some (.int .i64 g) := A0_1.c 2 (of_decide_eq_true rfl)
    have gp_2 := A0_1.f 2 (of_decide_eq_true rfl)
    have cp_3 : w1.cell? ⟨w.heap.size, 3, none⟩ = some (.int .i64 i) := A0_1.c 3 (of_decide_eq_true rfl)
    have gp_3 := A0_1.f 3 (of_decide_eq_true rfl)
    have cp_4 : w1.cell? ⟨w.heap.size, 4, none⟩ = some (.int .i64 l) := A0_1.c 4 (of_decide_eq_true rfl)
    have gp_4 := A0_1.f 4 (of_decide_eq_true rfl)
    have cp_5 : w1.cell? ⟨w.heap.size, 5, none⟩ = some (.int .i64 f) := A0_1.c 5 (of_decide_eq_true rfl)
    have gp_5 := A0_1.f 5 (of_decide_eq_true rfl)
    have cs_0 : w1.cell? ⟨(w.heap.size + 1), 0, none⟩ = some (.bool gap) := A1_1.c 0 (of_decide_eq_true rfl)
    have cs_1 : w1.cell? ⟨(w.heap.size + 1), 1, none⟩ = some (.bool gyro) := A1_1.c 1 (of_decide_eq_true rfl)
    have cs_2 : w1.cell? ⟨(w.heap.size + 1), 2, none⟩ = some (.bool slow) := A1_1.c 2 (of_decide_eq_true rfl)
    have cs_3 : w1.cell? ⟨(w.heap.size + 1), 3, none⟩ = some (.bool pair) := A1_1.c 3 (of_decide_eq_true rfl)
    have cs_4 : w1.cell? ⟨(w.heap.size + 1), 4, none⟩ = some (.bool lit) := A1_1.c 4 (of_decide_eq_true rfl)
    have cs_5 : w1.cell? ⟨(w.heap.size + 1), 5, none⟩ = some (.bool bad) := A1_1.c 5 (of_decide_eq_true rfl)
    have cs_6 : w1.cell? ⟨(w.heap.size + 1), 6, none⟩ = some (.bool pass) := A1_1.c 6 (of_decide_eq_true rfl)
    have cs_7 : w1.cell? ⟨(w.heap.size + 1), 7, none⟩ = some (.int .i64 1) := A1_1.c 7 (of_decide_eq_true rfl)
    go_wp2_with fail
    refine (h1 _).mono ?_
    rintro e w2 ⟨rfl, b2⟩
    have A0_2 : Arr w.heap.size [.int .i64 m, .int .i64 c, .int .i64 g, .int .i64 i, .int .i64 l, .int .i64 f] w2 := (A0_1.alloc _).below b2
    have A1_2 : Arr (w.heap.size + 1) [.bool gap, .bool gyro, .bool slow, .bool pair, .bool lit, .bool bad, .bool pass, .int .i64 1] w2 := (A1_1.alloc _).below b2
    have K2 := bel_then (bel_al K1 _) b2
    have z2 := A1_2.lies
    clear cp_0 cp_1 cp_2 cp_3 cp_4 cp_5 gp_0 gp_1 gp_2 gp_3 gp_4 gp_5 cs_0 cs_1 cs_2 cs_3 cs_4 cs_5 cs_6 cs_7 A0_1 A1_1 K1 b2
    have cp_0 : w2.cell? ⟨w.heap.size, 0, none⟩ = some (.int .i64 m) := A0_2.c 0 (of_decide_eq_true rfl)
    have gp_0 := A0_2.f 0 (of_decide_eq_true rfl)
    have cp_1 : w2.cell? ⟨w.heap.size, 1, none⟩ = some (.int .i64 c) := A0_2.c 1 (of_decide_eq_true rfl)
    have gp_1 := A0_2.f 1 (of_decide_eq_true rfl)
    have cp_2 : w2.cell? ⟨w.heap.size, 2, none⟩ = some (.int .i64 g) := A0_2.c 2 (of_decide_eq_true rfl)
    have gp_2 := A0_2.f 2 (of_decide_eq_true rfl)
    have cp_3 : w2.cell? ⟨w.heap.size, 3, none⟩ = some (.int .i64 i) := A0_2.c 3 (of_decide_eq_true rfl)
    have gp_3 := A0_2.f 3 (of_decide_eq_true rfl)
    have cp_4 : w2.cell? ⟨w.heap.size, 4, none⟩ = some (.int .i64 l) := A0_2.c 4 (of_decide_eq_true rfl)
    have gp_4 := A0_2.f 4 (of_decide_eq_true rfl)
    have cp_5 : w2.cell? ⟨w.heap.size, 5, none⟩ = some (.int .i64 f) := A0_2.c 5 (of_decide_eq_true rfl)
    have gp_5 := A0_2.f 5 (of_decide_eq_true rfl)
    have cs_0 : w2.cell? ⟨(w.heap.size + 1), 0, none⟩ = some (.bool gap) := A1_2.c 0 (of_decide_eq_true rfl)
    have cs_1 : w2.cell? ⟨(w.heap.size + 1), 1, none⟩ = some (.bool gyro) := A1_2.c 1 (of_decide_eq_true rfl)
    have cs_2 : w2.cell? ⟨(w.heap.size + 1), 2, none⟩ = some (.bool slow) := A1_2.c 2 (of_decide_eq_true rfl)
    have cs_3 : w2.cell? ⟨(w.heap.size + 1), 3, none⟩ = some (.bool pair) := A1_2.c 3 (of_decide_eq_true rfl)
    have cs_4 : w2.cell? ⟨(w.heap.size + 1), 4, none⟩ = some (.bool lit) := A1_2.c 4 (of_decide_eq_true rfl)
    have cs_5 : w2.cell? ⟨(w.heap.size + 1), 5, none⟩ = some (.bool bad) := A1_2.c 5 (of_decide_eq_true rfl)
    have cs_6 : w2.cell? ⟨(w.heap.size + 1), 6, none⟩ = some (.bool pass) := A1_2.c 6 (of_decide_eq_true rfl)
    have cs_7 : w2.cell? ⟨(w.heap.size + 1), 7, none⟩ = some (.int .i64 1) := A1_2.c 7 (of_decide_eq_true rfl)
    go_wp2_with fail
    refine (h2 _).mono ?_
    rintro e w3 ⟨rfl, b3⟩
    have A1_3 : Arr (w.heap.size + 1) [.bool gap, .bool gyro, .bool slow, .bool pair, .bool lit, .bool bad, .bool pass, .int .i64 1] w3 := (A1_2.new w.heap.size 0 (by omega) (.int .i64 3)).below b3
    have K3 := bel_then (bel_new K2 w.heap.size 0 (by omega) (.int .i64 3)) b3
    have z3 := A1_3.lies
    clear cp_0 cp_1 cp_2 cp_3 cp_4 cp_5 gp_0 gp_1 gp_2 gp_3 gp_4 gp_5 cs_0 cs_1 cs_2 cs_3 cs_4 cs_5 cs_6 cs_7
    have cs_0 : w3.cell? ⟨(w.heap.size + 1), 0, none⟩ = some (.bool gap) := A1_3.c 0 (of_decide_eq_true rfl)
    have cs_1 : w3.cell? ⟨(w.heap.size + 1), 1, none⟩ = some (.bool gyro) := A1_3.c 1 (of_decide_eq_true rfl)
    have cs_2 : w3.cell? ⟨(w.heap.size + 1), 2, none⟩ = some (.bool slow) := A1_3.c 2 (of_decide_eq_true rfl)
    have cs_3 : w3.cell? ⟨(w.heap.size + 1), 3, none⟩ = some (.bool pair) := A1_3.c 3 (of_decide_eq_true rfl)
    have cs_4 : w3.cell? ⟨(w.heap.size + 1), 4, none⟩ = some (.bool lit) := A1_3.c 4 (of_decide_eq_true rfl)
    have cs_5 : w3.cell? ⟨(w.heap.size + 1), 5, none⟩ = some (.bool bad) := A1_3.c 5 (of_decide_eq_true rfl)
    have cs_6 : w3.cell? ⟨(w.heap.size + 1), 6, none⟩ = some (.bool pass) := A1_3.c 6 (of_decide_eq_true rfl)
    have cs_7 : w3.cell? ⟨(w.heap.size + 1), 7, none⟩ = some (.int .i64 1) := A1_3.c 7 (of_decide_eq_true rfl)
    go_wp2_with (with_reducible refine post_stop ?_)
    exact ⟨bodyPost_ret (v := .bool true) (by simp [results, Try.results6, go_sem]) rfl ⟨rfl, bel_al K3 _⟩⟩
  · by_cases o2 : o = 2
    · subst o2
      have h1 := fun W => next_any m c g i l f gap gyro slow pair lit bad pass 1 W hp.c hp.g hp.i hp.l
      rw [show nextS ⟨m, c, g, i, l, f⟩ ⟨gap, gyro, slow, pair, lit, bad, pass, 1⟩ = ⟨3, 0, 0, 0, 0, f⟩ from rfl] at h1
      have h2 := fun W => next_any 3 c g i l f gap gyro slow pair lit bad pass 2 W hp.c hp.g hp.i hp.l
      rw [show nextS ⟨3, c, g, i, l, f⟩ ⟨gap, gyro, slow, pair, lit, bad, pass, 2⟩ = ⟨0, 0, 0, 0, 0, 0⟩ from rfl] at h2
      unfold plV at h1 h2
      clear hp
      go_enter Try.func6, Try.ntmps6
      go_wp2_with fail
      refine (awake_any _).mono ?_
      rintro e w1 ⟨rfl, b1⟩
      have A0_1 : Arr w.heap.size [.int .i64 m, .int .i64 c, .int .i64 g, .int .i64 i, .int .i64 l, .int .i64 f] w1 := ((Arr_at w _ [.int .i64 m, .int .i64 c, .int .i64 g, .int .i64 i, .int .i64 l, .int .i64 f] 23 rfl).alloc _).below b1
      have A1_1 : Arr (w.heap.size + 1) [.bool gap, .bool gyro, .bool slow, .bool pair, .bool lit, .bool bad, .bool pass, .int .i64 2] w1 := (Arr_at _ _ [.bool gap, .bool gyro, .bool slow, .bool pair, .bool lit, .bool bad, .bool pass, .int .i64 2] 25 (by simp)).below b1
      have K1 : Below w.heap.size w w1 := bel_then (bel_al (bel_al (Below.refl w.heap.size w) _) _) b1
      have z1 := A1_1.lies
      have z0 := A0_1.lies
      clear b1
      have cp_0 : w1.cell? ⟨w.heap.size, 0, none⟩ = some (.int .i64 m) := A0_1.c 0 (of_decide_eq_true rfl)
      have gp_0 := A0_1.f 0 (of_decide_eq_true rfl)
      have cp_1 : w1.cell? ⟨w.heap.size, 1, none⟩ = some (.int .i64 c) := A0_1.c 1 (of_decide_eq_true rfl)
      have gp_1 := A0_1.f 1 (of_decide_eq_true rfl)
      have cp_2 : w1.cell? ⟨w.heap.size, 2, none⟩ = some (.int .i64 g) := A0_1.c 2 (of_decide_eq_true rfl)
      have gp_2 := A0_1.f 2 (of_decide_eq_true rfl)
      have cp_3 : w1.cell? ⟨w.heap.size, 3, none⟩ = some (.int .i64 i) := A0_1.c 3 (of_decide_eq_true rfl)
      have gp_3 := A0_1.f 3 (of_decide_eq_true rfl)
      have cp_4 : w1.cell? ⟨w.heap.size, 4, none⟩ = some (.int .i64 l) := A0_1.c 4 (of_decide_eq_true rfl)
      have gp_4 := A0_1.f 4 (of_decide_eq_true rfl)
      have cp_5 : w1.cell? ⟨w.heap.size, 5, none⟩ = some (.int .i64 f) := A0_1.c 5 (of_decide_eq_true rfl)
      have gp_5 := A0_1.f 5 (of_decide_eq_true rfl)
      have cs_0 : w1.cell? ⟨(w.heap.size + 1), 0, none⟩ = some (.bool gap) := A1_1.c 0 (of_decide_eq_true rfl)
      have cs_1 : w1.cell? ⟨(w.heap.size + 1), 1, none⟩ = some (.bool gyro) := A1_1.c 1 (of_decide_eq_true rfl)
      have cs_2 : w1.cell? ⟨(w.heap.size + 1), 2, none⟩ = some (.bool slow) := A1_1.c 2 (of_decide_eq_true rfl)
      have cs_3 : w1.cell? ⟨(w.heap.size + 1), 3, none⟩ = some (.bool pair) := A1_1.c 3 (of_decide_eq_true rfl)
      have cs_4 : w1.cell? ⟨(w.heap.size + 1), 4, none⟩ = some (.bool lit) := A1_1.c 4 (of_decide_eq_true rfl)
      have cs_5 : w1.cell? ⟨(w.heap.size + 1), 5, none⟩ = some (.bool bad) := A1_1.c 5 (of_decide_eq_true rfl)
      have cs_6 : w1.cell? ⟨(w.heap.size + 1), 6, none⟩ = some (.bool pass) := A1_1.c 6 (of_decide_eq_true rfl)
      have cs_7 : w1.cell? ⟨(w.heap.size + 1), 7, none⟩ = some (.int .i64 2) := A1_1.c 7 (of_decide_eq_true rfl)
      go_wp2_with fail
      refine (h1 _).mono ?_
      rintro e w2 ⟨rfl, b2⟩
      have A0_2 : Arr w.heap.size [.int .i64 m, .int .i64 c, .int .i64 g, .int .i64 i, .int .i64 l, .int .i64 f] w2 := (A0_1.alloc _).below b2
      have A1_2 : Arr (w.heap.size + 1) [.bool gap, .bool gyro, .bool slow, .bool pair, .bool lit, .bool bad, .bool pass, .int .i64 2] w2 := (A1_1.alloc _).below b2
      have K2 := bel_then (bel_al K1 _) b2
      have z2 := A1_2.lies
      clear cp_0 cp_1 cp_2 cp_3 cp_4 cp_5 gp_0 gp_1 gp_2 gp_3 gp_4 gp_5 cs_0 cs_1 cs_2 cs_3 cs_4 cs_5 cs_6 cs_7 A0_1 A1_1 K1 b2
      have cp_0 : w2.cell? ⟨w.heap.size, 0, none⟩ = some (.int .i64 m) := A0_2.c 0 (of_decide_eq_true rfl)
      have gp_0 := A0_2.f 0 (of_decide_eq_true rfl)
      have cp_1 : w2.cell? ⟨w.heap.size, 1, none⟩ = some (.int .i64 c) := A0_2.c 1 (of_decide_eq_true rfl)
      have gp_1 := A0_2.f 1 (of_decide_eq_true rfl)
      have cp_2 : w2.cell? ⟨w.heap.size, 2, none⟩ = some (.int .i64 g) := A0_2.c 2 (of_decide_eq_true rfl)
      have gp_2 := A0_2.f 2 (of_decide_eq_true rfl)
      have cp_3 : w2.cell? ⟨w.heap.size, 3, none⟩ = some (.int .i64 i) := A0_2.c 3 (of_decide_eq_true rfl)
      have gp_3 := A0_2.f 3 (of_decide_eq_true rfl)
      have cp_4 : w2.cell? ⟨w.heap.size, 4, none⟩ = some (.int .i64 l) := A0_2.c 4 (of_decide_eq_true rfl)
      have gp_4 := A0_2.f 4 (of_decide_eq_true rfl)
      have cp_5 : w2.cell? ⟨w.heap.size, 5, none⟩ = some (.int .i64 f) := A0_2.c 5 (of_decide_eq_true rfl)
      have gp_5 := A0_2.f 5 (of_decide_eq_true rfl)
      have cs_0 : w2.cell? ⟨(w.heap.size + 1), 0, none⟩ = some (.bool gap) := A1_2.c 0 (of_decide_eq_true rfl)
      have cs_1 : w2.cell? ⟨(w.heap.size + 1), 1, none⟩ = some (.bool gyro) := A1_2.c 1 (of_decide_eq_true rfl)
      have cs_2 : w2.cell? ⟨(w.heap.size + 1), 2, none⟩ = some (.bool slow) := A1_2.c 2 (of_decide_eq_true rfl)
      have cs_3 : w2.cell? ⟨(w.heap.size + 1), 3, none⟩ = some (.bool pair) := A1_2.c 3 (of_decide_eq_true rfl)
      have cs_4 : w2.cell? ⟨(w.heap.size + 1), 4, none⟩ = some (.bool lit) := A1_2.c 4 (of_decide_eq_true rfl)
      have cs_5 : w2.cell? ⟨(w.heap.size + 1), 5, none⟩ = some (.bool bad) := A1_2.c 5 (of_decide_eq_true rfl)
      have cs_6 : w2.cell? ⟨(w.heap.size + 1), 6, none⟩ = some (.bool pass) := A1_2.c 6 (of_decide_eq_true rfl)
      have cs_7 : w2.cell? ⟨(w.heap.size + 1), 7, none⟩ = some (.int .i64 2) := A1_2.c 7 (of_decide_eq_true rfl)
      go_wp2_with fail
      refine (h2 _).mono ?_
      rintro e w3 ⟨rfl, b3⟩
      have A1_3 : Arr (w.heap.size + 1) [.bool gap, .bool gyro, .bool slow, .bool pair, .bool lit, .bool bad, .bool pass, .int .i64 2] w3 := (A1_2.new w.heap.size 0 (by omega) (.int .i64 3)).below b3
      have K3 := bel_then (bel_new K2 w.heap.size 0 (by omega) (.int .i64 3)) b3
      have z3 := A1_3.lies
      clear cp_0 cp_1 cp_2 cp_3 cp_4 cp_5 gp_0 gp_1 gp_2 gp_3 gp_4 gp_5 cs_0 cs_1 cs_2 cs_3 cs_4 cs_5 cs_6 cs_7
      have cs_0 : w3.cell? ⟨(w.heap.size + 1), 0, none⟩ = some (.bool gap) := A1_3.c 0 (of_decide_eq_true rfl)
      have cs_1 : w3.cell? ⟨(w.heap.size + 1), 1, none⟩ = some (.bool gyro) := A1_3.c 1 (of_decide_eq_true rfl)
      have cs_2 : w3.cell? ⟨(w.heap.size + 1), 2, none⟩ = some (.bool slow) := A1_3.c 2 (of_decide_eq_true rfl)
      have cs_3 : w3.cell? ⟨(w.heap.size + 1), 3, none⟩ = some (.bool pair) := A1_3.c 3 (of_decide_eq_true rfl)
      have cs_4 : w3.cell? ⟨(w.heap.size + 1), 4, none⟩ = some (.bool lit) := A1_3.c 4 (of_decide_eq_true rfl)
      have cs_5 : w3.cell? ⟨(w.heap.size + 1), 5, none⟩ = some (.bool bad) := A1_3.c 5 (of_decide_eq_true rfl)
      have cs_6 : w3.cell? ⟨(w.heap.size + 1), 6, none⟩ = some (.bool pass) := A1_3.c 6 (of_decide_eq_true rfl)
      have cs_7 : w3.cell? ⟨(w.heap.size + 1), 7, none⟩ = some (.int .i64 2) := A1_3.c 7 (of_decide_eq_true rfl)
      go_wp2_with (with_reducible refine post_stop ?_)
      exact ⟨bodyPost_ret (v := .bool true) (by simp [results, Try.results6, go_sem]) rfl ⟨rfl, bel_al K3 _⟩⟩
    · have h1 := fun W => next_any m c g i l f gap gyro slow pair lit bad pass 1 W hp.c hp.g hp.i hp.l
      rw [show nextS ⟨m, c, g, i, l, f⟩ ⟨gap, gyro, slow, pair, lit, bad, pass, 1⟩ = ⟨3, 0, 0, 0, 0, f⟩ from rfl] at h1
      have h2 := fun W => next_any 3 c g i l f gap gyro slow pair lit bad pass o W hp.c hp.g hp.i hp.l
      rw [show nextS ⟨3, c, g, i, l, f⟩ ⟨gap, gyro, slow, pair, lit, bad, pass, o⟩ = ⟨3, c, g, i, l, f⟩ from (if_neg o1).trans ((if_pos rfl).trans (if_neg o2))] at h2
      unfold plV at h1 h2
      clear hp
      go_enter Try.func6, Try.ntmps6
      go_wp2_with fail
      refine (awake_any _).mono ?_
      rintro e w1 ⟨rfl, b1⟩
      have A0_1 : Arr w.heap.size [.int .i64 m, .int .i64 c, .int .i64 g, .int .i64 i, .int .i64 l, .int .i64 f] w1 := ((Arr_at w _ [.int .i64 m, .int .i64 c, .int .i64 g, .int .i64 i, .int .i64 l, .int .i64 f] 23 rfl).alloc _).below b1
      have A1_1 : Arr (w.heap.size + 1) [.bool gap, .bool gyro, .bool slow, .bool pair, .bool lit, .bool bad, .bool pass, .int .i64 o] w1 := (Arr_at _ _ [.bool gap, .bool gyro, .bool slow, .bool pair, .bool lit, .bool bad, .bool pass, .int .i64 o] 25 (by simp)).below b1
      have K1 : Below w.heap.size w w1 := bel_then (bel_al (bel_al (Below.refl w.heap.size w) _) _) b1
      have z1 := A1_1.lies
      have z0 := A0_1.lies
      clear b1
      have cp_0 : w1.cell? ⟨w.heap.size, 0, none⟩ = some (.int .i64 m) := A0_1.c 0 (of_decide_eq_true rfl)
      have gp_0 := A0_1.f 0 (of_decide_eq_true rfl)
      have cp_1 : w1.cell? ⟨w.heap.size, 1, none⟩ = some (.int .i64 c) := A0_1.c 1 (of_decide_eq_true rfl)
      have gp_1 := A0_1.f 1 (of_decide_eq_true rfl)
      have cp_2 : w1.cell? ⟨w.heap.size, 2, none⟩ = some (.int .i64 g) := A0_1.c 2 (of_decide_eq_true rfl)
      have gp_2 := A0_1.f 2 (of_decide_eq_true rfl)
      have cp_3 : w1.cell? ⟨w.heap.size, 3, none⟩ = some (.int .i64 i) := A0_1.c 3 (of_decide_eq_true rfl)
      have gp_3 := A0_1.f 3 (of_decide_eq_true rfl)
      have cp_4 : w1.cell? ⟨w.heap.size, 4, none⟩ = some (.int .i64 l) := A0_1.c 4 (of_decide_eq_true rfl)
      have gp_4 := A0_1.f 4 (of_decide_eq_true rfl)
      have cp_5 : w1.cell? ⟨w.heap.size, 5, none⟩ = some (.int .i64 f) := A0_1.c 5 (of_decide_eq_true rfl)
      have gp_5 := A0_1.f 5 (of_decide_eq_true rfl)
      have cs_0 : w1.cell? ⟨(w.heap.size + 1), 0, none⟩ = some (.bool gap) := A1_1.c 0 (of_decide_eq_true rfl)
      have cs_1 : w1.cell? ⟨(w.heap.size + 1), 1, none⟩ = some (.bool gyro) := A1_1.c 1 (of_decide_eq_true rfl)
      have cs_2 : w1.cell? ⟨(w.heap.size + 1), 2, none⟩ = some (.bool slow) := A1_1.c 2 (of_decide_eq_true rfl)
      have cs_3 : w1.cell? ⟨(w.heap.size + 1), 3, none⟩ = some (.bool pair) := A1_1.c 3 (of_decide_eq_true rfl)
      have cs_4 : w1.cell? ⟨(w.heap.size + 1), 4, none⟩ = some (.bool lit) := A1_1.c 4 (of_decide_eq_true rfl)
      have cs_5 : w1.cell? ⟨(w.heap.size + 1), 5, none⟩ = some (.bool bad) := A1_1.c 5 (of_decide_eq_true rfl)
      have cs_6 : w1.cell? ⟨(w.heap.size + 1), 6, none⟩ = some (.bool pass) := A1_1.c 6 (of_decide_eq_true rfl)
      have cs_7 : w1.cell? ⟨(w.heap.size + 1), 7, none⟩ = some (.int .i64 o) := A1_1.c 7 (of_decide_eq_true rfl)
      go_wp2_with fail
      refine (h1 _).mono ?_
      rintro e w2 ⟨rfl, b2⟩
      have A0_2 : Arr w.heap.size [.int .i64 m, .int .i64 c, .int .i64 g, .int .i64 i, .int .i64 l, .int .i64 f] w2 := (A0_1.alloc _).below b2
      have A1_2 : Arr (w.heap.size + 1) [.bool gap, .bool gyro, .bool slow, .bool pair, .bool lit, .bool bad, .bool pass, .int .i64 o] w2 := (A1_1.alloc _).below b2
      have K2 := bel_then (bel_al K1 _) b2
      have z2 := A1_2.lies
      clear cp_0 cp_1 cp_2 cp_3 cp_4 cp_5 gp_0 gp_1 gp_2 gp_3 gp_4 gp_5 cs_0 cs_1 cs_2 cs_3 cs_4 cs_5 cs_6 cs_7 A0_1 A1_1 K1 b2
      have cp_0 : w2.cell? ⟨w.heap.size, 0, none⟩ = some (.int .i64 m) := A0_2.c 0 (of_decide_eq_true rfl)
      have gp_0 := A0_2.f 0 (of_decide_eq_true rfl)
      have cp_1 : w2.cell? ⟨w.heap.size, 1, none⟩ = some (.int .i64 c) := A0_2.c 1 (of_decide_eq_true rfl)
      have gp_1 := A0_2.f 1 (of_decide_eq_true rfl)
      have cp_2 : w2.cell? ⟨w.heap.size, 2, none⟩ = some (.int .i64 g) := A0_2.c 2 (of_decide_eq_true rfl)
      have gp_2 := A0_2.f 2 (of_decide_eq_true rfl)
      have cp_3 : w2.cell? ⟨w.heap.size, 3, none⟩ = some (.int .i64 i) := A0_2.c 3 (of_decide_eq_true rfl)
      have gp_3 := A0_2.f 3 (of_decide_eq_true rfl)
      have cp_4 : w2.cell? ⟨w.heap.size, 4, none⟩ = some (.int .i64 l) := A0_2.c 4 (of_decide_eq_true rfl)
      have gp_4 := A0_2.f 4 (of_decide_eq_true rfl)
      have cp_5 : w2.cell? ⟨w.heap.size, 5, none⟩ = some (.int .i64 f) := A0_2.c 5 (of_decide_eq_true rfl)
      have gp_5 := A0_2.f 5 (of_decide_eq_true rfl)
      have cs_0 : w2.cell? ⟨(w.heap.size + 1), 0, none⟩ = some (.bool gap) := A1_2.c 0 (of_decide_eq_true rfl)
      have cs_1 : w2.cell? ⟨(w.heap.size + 1), 1, none⟩ = some (.bool gyro) := A1_2.c 1 (of_decide_eq_true rfl)
      have cs_2 : w2.cell? ⟨(w.heap.size + 1), 2, none⟩ = some (.bool slow) := A1_2.c 2 (of_decide_eq_true rfl)
      have cs_3 : w2.cell? ⟨(w.heap.size + 1), 3, none⟩ = some (.bool pair) := A1_2.c 3 (of_decide_eq_true rfl)
      have cs_4 : w2.cell? ⟨(w.heap.size + 1), 4, none⟩ = some (.bool lit) := A1_2.c 4 (of_decide_eq_true rfl)
      have cs_5 : w2.cell? ⟨(w.heap.size + 1), 5, none⟩ = some (.bool bad) := A1_2.c 5 (of_decide_eq_true rfl)
      have cs_6 : w2.cell? ⟨(w.heap.size + 1), 6, none⟩ = some (.bool pass) := A1_2.c 6 (of_decide_eq_true rfl)
      have cs_7 : w2.cell? ⟨(w.heap.size + 1), 7, none⟩ = some (.int .i64 o) := A1_2.c 7 (of_decide_eq_true rfl)
      go_wp2_with fail
      refine (h2 _).mono ?_
      rintro e w3 ⟨rfl, b3⟩
      have A1_3 : Arr (w.heap.size + 1) [.bool gap, .bool gyro, .bool slow, .bool pair, .bool lit, .bool bad, .bool pass, .int .i64 o] w3 := (A1_2.new w.heap.size 0 (by omega) (.int .i64 3)).below b3
      have K3 := bel_then (bel_new K2 w.heap.size 0 (by omega) (.int .i64 3)) b3
      have z3 := A1_3.lies
      clear cp_0 cp_1 cp_2 cp_3 cp_4 cp_5 gp_0 gp_1 gp_2 gp_3 gp_4 gp_5 cs_0 cs_1 cs_2 cs_3 cs_4 cs_5 cs_6 cs_7
      have cs_0 : w3.cell? ⟨(w.heap.size + 1), 0, none⟩ = some (.bool gap) := A1_3.c 0 (of_decide_eq_true rfl)
      have cs_1 : w3.cell? ⟨(w.heap.size + 1), 1, none⟩ = some (.bool gyro) := A1_3.c 1 (of_decide_eq_true rfl)
      have cs_2 : w3.cell? ⟨(w.heap.size + 1), 2, none⟩ = some (.bool slow) := A1_3.c 2 (of_decide_eq_true rfl)
      have cs_3 : w3.cell? ⟨(w.heap.size + 1), 3, none⟩ = some (.bool pair) := A1_3.c 3 (of_decide_eq_true rfl)
      have cs_4 : w3.cell? ⟨(w.heap.size + 1), 4, none⟩ = some (.bool lit) := A1_3.c 4 (of_decide_eq_true rfl)
      have cs_5 : w3.cell? ⟨(w.heap.size + 1), 5, none⟩ = some (.bool bad) := A1_3.c 5 (of_decide_eq_true rfl)
      have cs_6 : w3.cell? ⟨(w.heap.size + 1), 6, none⟩ = some (.bool pass) := A1_3.c 6 (of_decide_eq_true rfl)
      have cs_7 : w3.cell? ⟨(w.heap.size + 1), 7, none⟩ = some (.int .i64 o) := A1_3.c 7 (of_decide_eq_true rfl)
      go_wp2_with (with_reducible refine post_stop ?_)
      exact ⟨bodyPost_ret (v := .bool true) (by simp [results, Try.results6, go_sem]) rfl ⟨rfl, bel_al K3 _⟩⟩
end Go.Proofs.Ytocnaflhedccpaa
