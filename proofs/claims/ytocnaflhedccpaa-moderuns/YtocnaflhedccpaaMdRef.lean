/-
  The walks of the reference's Next, for the seat Ytocnaflhedccpaa. (Made by mkmode.py.)
-/
import Derived.Test.YtocnaflhedccpaaMdSpec
import Derived.BigRegion
namespace Go.Proofs.Ytocnaflhedccpaa
open Go.RowKit

set_option maxHeartbeats 1000000 in
theorem count_any (n : Int) (w : World) (hn : I64 n) : Calls Try.prog 19 #[.int .i64 n] w fun e w' => e = .returned (.int .i64 (cntS n true)) ∧ Below w.heap.size w w' := by
  obtain ⟨h0, h1⟩ := hn
  by_cases c : 100 ≤ n
  · have HS : Hid (cntS n true = 100) := if_pos c
    go_enter Try.func19, Try.ntmps19
    go_wp2
    go_ret
    exact ⟨by rw [HS.out]; rfl, Below.refl _ _⟩
  · have HS : Hid (cntS n true = n + 1) := if_neg c
    go_enter Try.func19, Try.ntmps19
    go_wp2
    go_ret
    exact ⟨by rw [HS.out]; rfl, Below.refl _ _⟩
set_option maxHeartbeats 1000000 in
theorem to_any (k f : Int) (w : World) : Calls Try.prog 18 #[.int .i64 k, .int .i64 f] w fun e w' => e = .returned (.agg #[.int .i64 k, .int .i64 0, .int .i64 0, .int .i64 0, .int .i64 0, .int .i64 f]) ∧ Below w.heap.size w w' := by
  go_enter Try.func18, Try.ntmps18
  go_wp2_with (with_reducible refine post_stop ?_)
  exact ⟨bodyPost_ret (v := .agg #[.int .i64 k, .int .i64 0, .int .i64 0, .int .i64 0, .int .i64 0, .int .i64 f]) (by simp [results, Try.results18, go_sem]) rfl ⟨rfl, bel_al (Below.refl _ _) _⟩⟩
def rfinS (p : Pl) (s : Sn) : Pl := bif s.gap then failS 1 p else finS p s
set_option maxRecDepth 100000 in
set_option maxHeartbeats 4000000 in
theorem rfine_any (c g i l f : Int) (gap gyro slow pair lit bad pass : Bool) (o : Int) (w : World) (hl : I64 l) (hi : I64 i) : Calls Try.prog 20 #[.agg #[.int .i64 2, .int .i64 c, .int .i64 g, .int .i64 i, .int .i64 l, .int .i64 f], .agg #[.bool gap, .bool gyro, .bool slow, .bool pair, .bool lit, .bool bad, .bool pass, .int .i64 o]] w fun e w' => e = .returned (plV (rfinS ⟨2, c, g, i, l, f⟩ ⟨gap, gyro, slow, pair, lit, bad, pass, o⟩)) ∧ Below w.heap.size w w' := by
  cases gap
  · cases bad
    · cases gyro
      · by_cases t : 3 ≤ cntS l true
        · have HS : Hid (plV (rfinS ⟨2, c, g, i, l, f⟩ ⟨false, false, slow, pair, lit, false, pass, o⟩) = .agg #[.int .i64 1, .int .i64 0, .int .i64 0, .int .i64 0, .int .i64 0, .int .i64 (bits .or .i64 f 2)]) := by show plV _ = _; first | exact congrArg plV (if_pos t) | rfl | exact congrArg plV (if_neg ho) | exact congrArg plV (if_neg t) | exact congrArg plV (if_neg u) | exact congrArg plV (if_pos u)
          go_enter Try.func20, Try.ntmps20
          go_wp2_with fail
          refine (count_any l _ hl).mono ?_
          rintro e w1 ⟨rfl, b1⟩
          have A0_1 : Arr w.heap.size [.int .i64 2, .int .i64 c, .int .i64 g, .int .i64 i, .int .i64 l, .int .i64 f] w1 := (((Arr_at _ w.heap.size [.int .i64 2, .int .i64 c, .int .i64 g, .int .i64 i, .int .i64 l, .int .i64 f] 23 (by simp)).alloc _).alloc _).below b1
          have A1_1 : Arr (w.heap.size + 1) [.bool false, .bool false, .bool slow, .bool pair, .bool lit, .bool false, .bool pass, .int .i64 o] w1 := ((Arr_at _ (w.heap.size + 1) [.bool false, .bool false, .bool slow, .bool pair, .bool lit, .bool false, .bool pass, .int .i64 o] 25 (by simp)).alloc _).below b1
          have A2_1 : Arr (w.heap.size + 1 + 1) [.int .i64 0, .int .i64 0, .int .i64 0, .int .i64 0, .int .i64 0, .int .i64 0] w1 := (Arr_at _ (w.heap.size + 1 + 1) [.int .i64 0, .int .i64 0, .int .i64 0, .int .i64 0, .int .i64 0, .int .i64 0] 23 (by simp)).below b1
          have K1 : Below w.heap.size w w1 := bel_then (bel_al (bel_al (bel_al (Below.refl w.heap.size w) _) _) _) b1
          clear b1
          have cp_0 : w1.cell? ⟨w.heap.size, 0, none⟩ = some (.int .i64 2) := A0_1.c 0 (of_decide_eq_true rfl)
          have gp_0 := A0_1.f 0 (of_decide_eq_true rfl)
          have cp_1 : w1.cell? ⟨w.heap.size, 1, none⟩ = some (.int .i64 c) := A0_1.c 1 (of_decide_eq_true rfl)
          have gp_1 := A0_1.f 1 (of_decide_eq_true rfl)
          have cp_2 : w1.cell? ⟨w.heap.size, 2, none⟩ = some (.int .i64 g) := A0_1.c 2 (of_decide_eq_true rfl)
          have gp_2 := A0_1.f 2 (of_decide_eq_true rfl)
          have cp_3 : w1.cell? ⟨w.heap.size, 3, none⟩ = some (.int .i64 i) := A0_1.c 3 (of_decide_eq_true rfl)
          have gp_3 := A0_1.f 3 (of_decide_eq_true rfl)
          have cp_4 : w1.cell? ⟨w.heap.size, 4, none⟩ = some (.int .i64 l) := A0_1.c 4 (of_decide_eq_true rfl)
          have gp_4 := A0_1.f 4 (of_decide_eq_true rfl)
          have cp_5 : w1.cell? ⟨w.heap.size, 5, none⟩ = some (.int .i64 f) := A0_1.c 5 (of_decide_eq_true rfl)
          have gp_5 := A0_1.f 5 (of_decide_eq_true rfl)
          have cs_0 : w1.cell? ⟨(w.heap.size + 1), 0, none⟩ = some (.bool false) := A1_1.c 0 (of_decide_eq_true rfl)
          have cs_1 : w1.cell? ⟨(w.heap.size + 1), 1, none⟩ = some (.bool false) := A1_1.c 1 (of_decide_eq_true rfl)
          have cs_2 : w1.cell? ⟨(w.heap.size + 1), 2, none⟩ = some (.bool slow) := A1_1.c 2 (of_decide_eq_true rfl)
          have cs_3 : w1.cell? ⟨(w.heap.size + 1), 3, none⟩ = some (.bool pair) := A1_1.c 3 (of_decide_eq_true rfl)
          have cs_4 : w1.cell? ⟨(w.heap.size + 1), 4, none⟩ = some (.bool lit) := A1_1.c 4 (of_decide_eq_true rfl)
          have cs_5 : w1.cell? ⟨(w.heap.size + 1), 5, none⟩ = some (.bool false) := A1_1.c 5 (of_decide_eq_true rfl)
          have cs_6 : w1.cell? ⟨(w.heap.size + 1), 6, none⟩ = some (.bool pass) := A1_1.c 6 (of_decide_eq_true rfl)
          have cs_7 : w1.cell? ⟨(w.heap.size + 1), 7, none⟩ = some (.int .i64 o) := A1_1.c 7 (of_decide_eq_true rfl)
          have cz_0 : w1.cell? ⟨(w.heap.size + 1 + 1), 0, none⟩ = some (.int .i64 0) := A2_1.c 0 (of_decide_eq_true rfl)
          have gz_0 := A2_1.f 0 (of_decide_eq_true rfl)
          have cz_1 : w1.cell? ⟨(w.heap.size + 1 + 1), 1, none⟩ = some (.int .i64 0) := A2_1.c 1 (of_decide_eq_true rfl)
          have gz_1 := A2_1.f 1 (of_decide_eq_true rfl)
          have cz_2 : w1.cell? ⟨(w.heap.size + 1 + 1), 2, none⟩ = some (.int .i64 0) := A2_1.c 2 (of_decide_eq_true rfl)
          have gz_2 := A2_1.f 2 (of_decide_eq_true rfl)
          have cz_3 : w1.cell? ⟨(w.heap.size + 1 + 1), 3, none⟩ = some (.int .i64 0) := A2_1.c 3 (of_decide_eq_true rfl)
          have gz_3 := A2_1.f 3 (of_decide_eq_true rfl)
          have cz_4 : w1.cell? ⟨(w.heap.size + 1 + 1), 4, none⟩ = some (.int .i64 0) := A2_1.c 4 (of_decide_eq_true rfl)
          have gz_4 := A2_1.f 4 (of_decide_eq_true rfl)
          have cz_5 : w1.cell? ⟨(w.heap.size + 1 + 1), 5, none⟩ = some (.int .i64 0) := A2_1.c 5 (of_decide_eq_true rfl)
          have gz_5 := A2_1.f 5 (of_decide_eq_true rfl)
          have zz1 := A2_1.lies
          go_wp2_with fail
          refine (to_any 1 (bits .or .i64 f 2) _).mono ?_
          rintro e w2 ⟨rfl, b2⟩
          have A0_2 : Arr w.heap.size [.int .i64 2, .int .i64 c, .int .i64 g, .int .i64 i, .int .i64 (cntS l true), .int .i64 f] w2 := (A0_1.put 4 (of_decide_eq_true rfl) (.int .i64 (cntS l true)) [.int .i64 2, .int .i64 c, .int .i64 g, .int .i64 i, .int .i64 (cntS l true), .int .i64 f] rfl).below b2
          have A1_2 : Arr (w.heap.size + 1) [.bool false, .bool false, .bool slow, .bool pair, .bool lit, .bool false, .bool pass, .int .i64 o] w2 := (A1_1.new w.heap.size 4 (by omega) (.int .i64 (cntS l true))).below b2
          have A2_2 : Arr (w.heap.size + 1 + 1) [.int .i64 0, .int .i64 0, .int .i64 0, .int .i64 0, .int .i64 0, .int .i64 0] w2 := (A2_1.new w.heap.size 4 (by omega) (.int .i64 (cntS l true))).below b2
          have K2 : Below w.heap.size w w2 := bel_then (bel_new K1 w.heap.size 4 (by omega) (.int .i64 (cntS l true))) b2
          clear A0_1 A1_1 A2_1 K1 cp_0 gp_0 cp_1 gp_1 cp_2 gp_2 cp_3 gp_3 cp_4 gp_4 cp_5 gp_5 cs_0 cs_1 cs_2 cs_3 cs_4 cs_5 cs_6 cs_7 cz_0 gz_0 cz_1 gz_1 cz_2 gz_2 cz_3 gz_3 cz_4 gz_4 cz_5 gz_5 zz1
          clear b2
          have cp_0 : w2.cell? ⟨w.heap.size, 0, none⟩ = some (.int .i64 2) := A0_2.c 0 (of_decide_eq_true rfl)
          have gp_0 := A0_2.f 0 (of_decide_eq_true rfl)
          have cp_1 : w2.cell? ⟨w.heap.size, 1, none⟩ = some (.int .i64 c) := A0_2.c 1 (of_decide_eq_true rfl)
          have gp_1 := A0_2.f 1 (of_decide_eq_true rfl)
          have cp_2 : w2.cell? ⟨w.heap.size, 2, none⟩ = some (.int .i64 g) := A0_2.c 2 (of_decide_eq_true rfl)
          have gp_2 := A0_2.f 2 (of_decide_eq_true rfl)
          have cp_3 : w2.cell? ⟨w.heap.size, 3, none⟩ = some (.int .i64 i) := A0_2.c 3 (of_decide_eq_true rfl)
          have gp_3 := A0_2.f 3 (of_decide_eq_true rfl)
          have cp_4 : w2.cell? ⟨w.heap.size, 4, none⟩ = some (.int .i64 (cntS l true)) := A0_2.c 4 (of_decide_eq_true rfl)
          have gp_4 := A0_2.f 4 (of_decide_eq_true rfl)
          have cp_5 : w2.cell? ⟨w.heap.size, 5, none⟩ = some (.int .i64 f) := A0_2.c 5 (of_decide_eq_true rfl)
          have gp_5 := A0_2.f 5 (of_decide_eq_true rfl)
          have cs_0 : w2.cell? ⟨(w.heap.size + 1), 0, none⟩ = some (.bool false) := A1_2.c 0 (of_decide_eq_true rfl)
          have cs_1 : w2.cell? ⟨(w.heap.size + 1), 1, none⟩ = some (.bool false) := A1_2.c 1 (of_decide_eq_true rfl)
          have cs_2 : w2.cell? ⟨(w.heap.size + 1), 2, none⟩ = some (.bool slow) := A1_2.c 2 (of_decide_eq_true rfl)
          have cs_3 : w2.cell? ⟨(w.heap.size + 1), 3, none⟩ = some (.bool pair) := A1_2.c 3 (of_decide_eq_true rfl)
          have cs_4 : w2.cell? ⟨(w.heap.size + 1), 4, none⟩ = some (.bool lit) := A1_2.c 4 (of_decide_eq_true rfl)
          have cs_5 : w2.cell? ⟨(w.heap.size + 1), 5, none⟩ = some (.bool false) := A1_2.c 5 (of_decide_eq_true rfl)
          have cs_6 : w2.cell? ⟨(w.heap.size + 1), 6, none⟩ = some (.bool pass) := A1_2.c 6 (of_decide_eq_true rfl)
          have cs_7 : w2.cell? ⟨(w.heap.size + 1), 7, none⟩ = some (.int .i64 o) := A1_2.c 7 (of_decide_eq_true rfl)
          have cz_0 : w2.cell? ⟨(w.heap.size + 1 + 1), 0, none⟩ = some (.int .i64 0) := A2_2.c 0 (of_decide_eq_true rfl)
          have gz_0 := A2_2.f 0 (of_decide_eq_true rfl)
          have cz_1 : w2.cell? ⟨(w.heap.size + 1 + 1), 1, none⟩ = some (.int .i64 0) := A2_2.c 1 (of_decide_eq_true rfl)
          have gz_1 := A2_2.f 1 (of_decide_eq_true rfl)
          have cz_2 : w2.cell? ⟨(w.heap.size + 1 + 1), 2, none⟩ = some (.int .i64 0) := A2_2.c 2 (of_decide_eq_true rfl)
          have gz_2 := A2_2.f 2 (of_decide_eq_true rfl)
          have cz_3 : w2.cell? ⟨(w.heap.size + 1 + 1), 3, none⟩ = some (.int .i64 0) := A2_2.c 3 (of_decide_eq_true rfl)
          have gz_3 := A2_2.f 3 (of_decide_eq_true rfl)
          have cz_4 : w2.cell? ⟨(w.heap.size + 1 + 1), 4, none⟩ = some (.int .i64 0) := A2_2.c 4 (of_decide_eq_true rfl)
          have gz_4 := A2_2.f 4 (of_decide_eq_true rfl)
          have cz_5 : w2.cell? ⟨(w.heap.size + 1 + 1), 5, none⟩ = some (.int .i64 0) := A2_2.c 5 (of_decide_eq_true rfl)
          have gz_5 := A2_2.f 5 (of_decide_eq_true rfl)
          have zz2 := A2_2.lies
          go_wp2_with (with_reducible refine post_stop ?_)
          have A9 := ((((((A2_2.put 0 (of_decide_eq_true rfl) (.int .i64 1) [.int .i64 1, .int .i64 0, .int .i64 0, .int .i64 0, .int .i64 0, .int .i64 0] rfl).put 1 (of_decide_eq_true rfl) (.int .i64 0) [.int .i64 1, .int .i64 0, .int .i64 0, .int .i64 0, .int .i64 0, .int .i64 0] rfl).put 2 (of_decide_eq_true rfl) (.int .i64 0) [.int .i64 1, .int .i64 0, .int .i64 0, .int .i64 0, .int .i64 0, .int .i64 0] rfl).put 3 (of_decide_eq_true rfl) (.int .i64 0) [.int .i64 1, .int .i64 0, .int .i64 0, .int .i64 0, .int .i64 0, .int .i64 0] rfl).put 4 (of_decide_eq_true rfl) (.int .i64 0) [.int .i64 1, .int .i64 0, .int .i64 0, .int .i64 0, .int .i64 0, .int .i64 0] rfl).put 5 (of_decide_eq_true rfl) (.int .i64 (bits .or .i64 f 2)) [.int .i64 1, .int .i64 0, .int .i64 0, .int .i64 0, .int .i64 0, .int .i64 (bits .or .i64 f 2)] rfl)
          have K9 := (bel_new (bel_new (bel_new (bel_new (bel_new (bel_new K2 (w.heap.size + 1 + 1) 0 (by omega) (.int .i64 1)) (w.heap.size + 1 + 1) 1 (by omega) (.int .i64 0)) (w.heap.size + 1 + 1) 2 (by omega) (.int .i64 0)) (w.heap.size + 1 + 1) 3 (by omega) (.int .i64 0)) (w.heap.size + 1 + 1) 4 (by omega) (.int .i64 0)) (w.heap.size + 1 + 1) 5 (by omega) (.int .i64 (bits .or .i64 f 2)))
          clear cp_0 gp_0 cp_1 gp_1 cp_2 gp_2 cp_3 gp_3 cp_4 gp_4 cp_5 gp_5 cs_0 cs_1 cs_2 cs_3 cs_4 cs_5 cs_6 cs_7 cz_0 gz_0 cz_1 gz_1 cz_2 gz_2 cz_3 gz_3 cz_4 gz_4 cz_5 gz_5
          exact ⟨bodyPost_ret (v := .agg #[.int .i64 1, .int .i64 0, .int .i64 0, .int .i64 0, .int .i64 0, .int .i64 (bits .or .i64 f 2)]) (results_arr Try.results20 A9 rfl (by kernel_rfl) (by kernel_rfl)) rfl ⟨by rw [HS.out], K9⟩⟩
        · cases pair
          · have HS : Hid (plV (rfinS ⟨2, c, g, i, l, f⟩ ⟨false, false, slow, false, lit, false, pass, o⟩) = .agg #[.int .i64 2, .int .i64 c, .int .i64 g, .int .i64 i, .int .i64 (cntS l true), .int .i64 f]) := by show plV _ = _; first | exact congrArg plV (if_neg t) | rfl | exact congrArg plV (if_neg ho) | exact congrArg plV (if_neg t) | exact congrArg plV (if_neg u) | exact congrArg plV (if_pos u)
            go_enter Try.func20, Try.ntmps20
            go_wp2_with fail
            refine (count_any l _ hl).mono ?_
            rintro e w1 ⟨rfl, b1⟩
            have A0_1 : Arr w.heap.size [.int .i64 2, .int .i64 c, .int .i64 g, .int .i64 i, .int .i64 l, .int .i64 f] w1 := (((Arr_at _ w.heap.size [.int .i64 2, .int .i64 c, .int .i64 g, .int .i64 i, .int .i64 l, .int .i64 f] 23 (by simp)).alloc _).alloc _).below b1
            have A1_1 : Arr (w.heap.size + 1) [.bool false, .bool false, .bool slow, .bool false, .bool lit, .bool false, .bool pass, .int .i64 o] w1 := ((Arr_at _ (w.heap.size + 1) [.bool false, .bool false, .bool slow, .bool false, .bool lit, .bool false, .bool pass, .int .i64 o] 25 (by simp)).alloc _).below b1
            have A2_1 : Arr (w.heap.size + 1 + 1) [.int .i64 0, .int .i64 0, .int .i64 0, .int .i64 0, .int .i64 0, .int .i64 0] w1 := (Arr_at _ (w.heap.size + 1 + 1) [.int .i64 0, .int .i64 0, .int .i64 0, .int .i64 0, .int .i64 0, .int .i64 0] 23 (by simp)).below b1
            have K1 : Below w.heap.size w w1 := bel_then (bel_al (bel_al (bel_al (Below.refl w.heap.size w) _) _) _) b1
            clear b1
            have cp_0 : w1.cell? ⟨w.heap.size, 0, none⟩ = some (.int .i64 2) := A0_1.c 0 (of_decide_eq_true rfl)
            have gp_0 := A0_1.f 0 (of_decide_eq_true rfl)
            have cp_1 : w1.cell? ⟨w.heap.size, 1, none⟩ = some (.int .i64 c) := A0_1.c 1 (of_decide_eq_true rfl)
            have gp_1 := A0_1.f 1 (of_decide_eq_true rfl)
            have cp_2 : w1.cell? ⟨w.heap.size, 2, none⟩ = some (.int .i64 g) := A0_1.c 2 (of_decide_eq_true rfl)
            have gp_2 := A0_1.f 2 (of_decide_eq_true rfl)
            have cp_3 : w1.cell? ⟨w.heap.size, 3, none⟩ = some (.int .i64 i) := A0_1.c 3 (of_decide_eq_true rfl)
            have gp_3 := A0_1.f 3 (of_decide_eq_true rfl)
            have cp_4 : w1.cell? ⟨w.heap.size, 4, none⟩ = some (.int .i64 l) := A0_1.c 4 (of_decide_eq_true rfl)
            have gp_4 := A0_1.f 4 (of_decide_eq_true rfl)
            have cp_5 : w1.cell? ⟨w.heap.size, 5, none⟩ = some (.int .i64 f) := A0_1.c 5 (of_decide_eq_true rfl)
            have gp_5 := A0_1.f 5 (of_decide_eq_true rfl)
            have cs_0 : w1.cell? ⟨(w.heap.size + 1), 0, none⟩ = some (.bool false) := A1_1.c 0 (of_decide_eq_true rfl)
            have cs_1 : w1.cell? ⟨(w.heap.size + 1), 1, none⟩ = some (.bool false) := A1_1.c 1 (of_decide_eq_true rfl)
            have cs_2 : w1.cell? ⟨(w.heap.size + 1), 2, none⟩ = some (.bool slow) := A1_1.c 2 (of_decide_eq_true rfl)
            have cs_3 : w1.cell? ⟨(w.heap.size + 1), 3, none⟩ = some (.bool false) := A1_1.c 3 (of_decide_eq_true rfl)
            have cs_4 : w1.cell? ⟨(w.heap.size + 1), 4, none⟩ = some (.bool lit) := A1_1.c 4 (of_decide_eq_true rfl)
            have cs_5 : w1.cell? ⟨(w.heap.size + 1), 5, none⟩ = some (.bool false) := A1_1.c 5 (of_decide_eq_true rfl)
            have cs_6 : w1.cell? ⟨(w.heap.size + 1), 6, none⟩ = some (.bool pass) := A1_1.c 6 (of_decide_eq_true rfl)
            have cs_7 : w1.cell? ⟨(w.heap.size + 1), 7, none⟩ = some (.int .i64 o) := A1_1.c 7 (of_decide_eq_true rfl)
            have cz_0 : w1.cell? ⟨(w.heap.size + 1 + 1), 0, none⟩ = some (.int .i64 0) := A2_1.c 0 (of_decide_eq_true rfl)
            have gz_0 := A2_1.f 0 (of_decide_eq_true rfl)
            have cz_1 : w1.cell? ⟨(w.heap.size + 1 + 1), 1, none⟩ = some (.int .i64 0) := A2_1.c 1 (of_decide_eq_true rfl)
            have gz_1 := A2_1.f 1 (of_decide_eq_true rfl)
            have cz_2 : w1.cell? ⟨(w.heap.size + 1 + 1), 2, none⟩ = some (.int .i64 0) := A2_1.c 2 (of_decide_eq_true rfl)
            have gz_2 := A2_1.f 2 (of_decide_eq_true rfl)
            have cz_3 : w1.cell? ⟨(w.heap.size + 1 + 1), 3, none⟩ = some (.int .i64 0) := A2_1.c 3 (of_decide_eq_true rfl)
            have gz_3 := A2_1.f 3 (of_decide_eq_true rfl)
            have cz_4 : w1.cell? ⟨(w.heap.size + 1 + 1), 4, none⟩ = some (.int .i64 0) := A2_1.c 4 (of_decide_eq_true rfl)
            have gz_4 := A2_1.f 4 (of_decide_eq_true rfl)
            have cz_5 : w1.cell? ⟨(w.heap.size + 1 + 1), 5, none⟩ = some (.int .i64 0) := A2_1.c 5 (of_decide_eq_true rfl)
            have gz_5 := A2_1.f 5 (of_decide_eq_true rfl)
            have zz1 := A2_1.lies
            go_wp2_with (with_reducible refine post_stop ?_)
            have A9 := (((((((A2_1.new w.heap.size 4 (by omega) (.int .i64 (cntS l true))).put 0 (of_decide_eq_true rfl) (.int .i64 2) [.int .i64 2, .int .i64 0, .int .i64 0, .int .i64 0, .int .i64 0, .int .i64 0] rfl).put 1 (of_decide_eq_true rfl) (.int .i64 c) [.int .i64 2, .int .i64 c, .int .i64 0, .int .i64 0, .int .i64 0, .int .i64 0] rfl).put 2 (of_decide_eq_true rfl) (.int .i64 g) [.int .i64 2, .int .i64 c, .int .i64 g, .int .i64 0, .int .i64 0, .int .i64 0] rfl).put 3 (of_decide_eq_true rfl) (.int .i64 i) [.int .i64 2, .int .i64 c, .int .i64 g, .int .i64 i, .int .i64 0, .int .i64 0] rfl).put 4 (of_decide_eq_true rfl) (.int .i64 (cntS l true)) [.int .i64 2, .int .i64 c, .int .i64 g, .int .i64 i, .int .i64 (cntS l true), .int .i64 0] rfl).put 5 (of_decide_eq_true rfl) (.int .i64 f) [.int .i64 2, .int .i64 c, .int .i64 g, .int .i64 i, .int .i64 (cntS l true), .int .i64 f] rfl)
            have K9 := (bel_new (bel_new (bel_new (bel_new (bel_new (bel_new (bel_new K1 w.heap.size 4 (by omega) (.int .i64 (cntS l true))) (w.heap.size + 1 + 1) 0 (by omega) (.int .i64 2)) (w.heap.size + 1 + 1) 1 (by omega) (.int .i64 c)) (w.heap.size + 1 + 1) 2 (by omega) (.int .i64 g)) (w.heap.size + 1 + 1) 3 (by omega) (.int .i64 i)) (w.heap.size + 1 + 1) 4 (by omega) (.int .i64 (cntS l true))) (w.heap.size + 1 + 1) 5 (by omega) (.int .i64 f))
            clear cp_0 gp_0 cp_1 gp_1 cp_2 gp_2 cp_3 gp_3 cp_4 gp_4 cp_5 gp_5 cs_0 cs_1 cs_2 cs_3 cs_4 cs_5 cs_6 cs_7 cz_0 gz_0 cz_1 gz_1 cz_2 gz_2 cz_3 gz_3 cz_4 gz_4 cz_5 gz_5
            exact ⟨bodyPost_ret (v := .agg #[.int .i64 2, .int .i64 c, .int .i64 g, .int .i64 i, .int .i64 (cntS l true), .int .i64 f]) (results_arr Try.results20 A9 rfl (by kernel_rfl) (by kernel_rfl)) rfl ⟨by rw [HS.out], K9⟩⟩
          · cases lit
            · have HS : Hid (plV (rfinS ⟨2, c, g, i, l, f⟩ ⟨false, false, slow, true, false, false, pass, o⟩) = .agg #[.int .i64 2, .int .i64 c, .int .i64 g, .int .i64 i, .int .i64 (cntS l true), .int .i64 f]) := by show plV _ = _; first | exact congrArg plV (if_neg t) | rfl | exact congrArg plV (if_neg ho) | exact congrArg plV (if_neg t) | exact congrArg plV (if_neg u) | exact congrArg plV (if_pos u)
              go_enter Try.func20, Try.ntmps20
              go_wp2_with fail
              refine (count_any l _ hl).mono ?_
              rintro e w1 ⟨rfl, b1⟩
              have A0_1 : Arr w.heap.size [.int .i64 2, .int .i64 c, .int .i64 g, .int .i64 i, .int .i64 l, .int .i64 f] w1 := (((Arr_at _ w.heap.size [.int .i64 2, .int .i64 c, .int .i64 g, .int .i64 i, .int .i64 l, .int .i64 f] 23 (by simp)).alloc _).alloc _).below b1
              have A1_1 : Arr (w.heap.size + 1) [.bool false, .bool false, .bool slow, .bool true, .bool false, .bool false, .bool pass, .int .i64 o] w1 := ((Arr_at _ (w.heap.size + 1) [.bool false, .bool false, .bool slow, .bool true, .bool false, .bool false, .bool pass, .int .i64 o] 25 (by simp)).alloc _).below b1
              have A2_1 : Arr (w.heap.size + 1 + 1) [.int .i64 0, .int .i64 0, .int .i64 0, .int .i64 0, .int .i64 0, .int .i64 0] w1 := (Arr_at _ (w.heap.size + 1 + 1) [.int .i64 0, .int .i64 0, .int .i64 0, .int .i64 0, .int .i64 0, .int .i64 0] 23 (by simp)).below b1
              have K1 : Below w.heap.size w w1 := bel_then (bel_al (bel_al (bel_al (Below.refl w.heap.size w) _) _) _) b1
              clear b1
              have cp_0 : w1.cell? ⟨w.heap.size, 0, none⟩ = some (.int .i64 2) := A0_1.c 0 (of_decide_eq_true rfl)
              have gp_0 := A0_1.f 0 (of_decide_eq_true rfl)
              have cp_1 : w1.cell? ⟨w.heap.size, 1, none⟩ = some (.int .i64 c) := A0_1.c 1 (of_decide_eq_true rfl)
              have gp_1 := A0_1.f 1 (of_decide_eq_true rfl)
              have cp_2 : w1.cell? ⟨w.heap.size, 2, none⟩ = some (.int .i64 g) := A0_1.c 2 (of_decide_eq_true rfl)
              have gp_2 := A0_1.f 2 (of_decide_eq_true rfl)
              have cp_3 : w1.cell? ⟨w.heap.size, 3, none⟩ = some (.int .i64 i) := A0_1.c 3 (of_decide_eq_true rfl)
              have gp_3 := A0_1.f 3 (of_decide_eq_true rfl)
              have cp_4 : w1.cell? ⟨w.heap.size, 4, none⟩ = some (.int .i64 l) := A0_1.c 4 (of_decide_eq_true rfl)
              have gp_4 := A0_1.f 4 (of_decide_eq_true rfl)
              have cp_5 : w1.cell? ⟨w.heap.size, 5, none⟩ = some (.int .i64 f) := A0_1.c 5 (of_decide_eq_true rfl)
              have gp_5 := A0_1.f 5 (of_decide_eq_true rfl)
              have cs_0 : w1.cell? ⟨(w.heap.size + 1), 0, none⟩ = some (.bool false) := A1_1.c 0 (of_decide_eq_true rfl)
              have cs_1 : w1.cell? ⟨(w.heap.size + 1), 1, none⟩ = some (.bool false) := A1_1.c 1 (of_decide_eq_true rfl)
              have cs_2 : w1.cell? ⟨(w.heap.size + 1), 2, none⟩ = some (.bool slow) := A1_1.c 2 (of_decide_eq_true rfl)
              have cs_3 : w1.cell? ⟨(w.heap.size + 1), 3, none⟩ = some (.bool true) := A1_1.c 3 (of_decide_eq_true rfl)
              have cs_4 : w1.cell? ⟨(w.heap.size + 1), 4, none⟩ = some (.bool false) := A1_1.c 4 (of_decide_eq_true rfl)
              have cs_5 : w1.cell? ⟨(w.heap.size + 1), 5, none⟩ = some (.bool false) := A1_1.c 5 (of_decide_eq_true rfl)
              have cs_6 : w1.cell? ⟨(w.heap.size + 1), 6, none⟩ = some (.bool pass) := A1_1.c 6 (of_decide_eq_true rfl)
              have cs_7 : w1.cell? ⟨(w.heap.size + 1), 7, none⟩ = some (.int .i64 o) := A1_1.c 7 (of_decide_eq_true rfl)
              have cz_0 : w1.cell? ⟨(w.heap.size + 1 + 1), 0, none⟩ = some (.int .i64 0) := A2_1.c 0 (of_decide_eq_true rfl)
              have gz_0 := A2_1.f 0 (of_decide_eq_true rfl)
              have cz_1 : w1.cell? ⟨(w.heap.size + 1 + 1), 1, none⟩ = some (.int .i64 0) := A2_1.c 1 (of_decide_eq_true rfl)
              have gz_1 := A2_1.f 1 (of_decide_eq_true rfl)
              have cz_2 : w1.cell? ⟨(w.heap.size + 1 + 1), 2, none⟩ = some (.int .i64 0) := A2_1.c 2 (of_decide_eq_true rfl)
              have gz_2 := A2_1.f 2 (of_decide_eq_true rfl)
              have cz_3 : w1.cell? ⟨(w.heap.size + 1 + 1), 3, none⟩ = some (.int .i64 0) := A2_1.c 3 (of_decide_eq_true rfl)
              have gz_3 := A2_1.f 3 (of_decide_eq_true rfl)
              have cz_4 : w1.cell? ⟨(w.heap.size + 1 + 1), 4, none⟩ = some (.int .i64 0) := A2_1.c 4 (of_decide_eq_true rfl)
              have gz_4 := A2_1.f 4 (of_decide_eq_true rfl)
              have cz_5 : w1.cell? ⟨(w.heap.size + 1 + 1), 5, none⟩ = some (.int .i64 0) := A2_1.c 5 (of_decide_eq_true rfl)
              have gz_5 := A2_1.f 5 (of_decide_eq_true rfl)
              have zz1 := A2_1.lies
              go_wp2_with (with_reducible refine post_stop ?_)
              have A9 := (((((((A2_1.new w.heap.size 4 (by omega) (.int .i64 (cntS l true))).put 0 (of_decide_eq_true rfl) (.int .i64 2) [.int .i64 2, .int .i64 0, .int .i64 0, .int .i64 0, .int .i64 0, .int .i64 0] rfl).put 1 (of_decide_eq_true rfl) (.int .i64 c) [.int .i64 2, .int .i64 c, .int .i64 0, .int .i64 0, .int .i64 0, .int .i64 0] rfl).put 2 (of_decide_eq_true rfl) (.int .i64 g) [.int .i64 2, .int .i64 c, .int .i64 g, .int .i64 0, .int .i64 0, .int .i64 0] rfl).put 3 (of_decide_eq_true rfl) (.int .i64 i) [.int .i64 2, .int .i64 c, .int .i64 g, .int .i64 i, .int .i64 0, .int .i64 0] rfl).put 4 (of_decide_eq_true rfl) (.int .i64 (cntS l true)) [.int .i64 2, .int .i64 c, .int .i64 g, .int .i64 i, .int .i64 (cntS l true), .int .i64 0] rfl).put 5 (of_decide_eq_true rfl) (.int .i64 f) [.int .i64 2, .int .i64 c, .int .i64 g, .int .i64 i, .int .i64 (cntS l true), .int .i64 f] rfl)
              have K9 := (bel_new (bel_new (bel_new (bel_new (bel_new (bel_new (bel_new K1 w.heap.size 4 (by omega) (.int .i64 (cntS l true))) (w.heap.size + 1 + 1) 0 (by omega) (.int .i64 2)) (w.heap.size + 1 + 1) 1 (by omega) (.int .i64 c)) (w.heap.size + 1 + 1) 2 (by omega) (.int .i64 g)) (w.heap.size + 1 + 1) 3 (by omega) (.int .i64 i)) (w.heap.size + 1 + 1) 4 (by omega) (.int .i64 (cntS l true))) (w.heap.size + 1 + 1) 5 (by omega) (.int .i64 f))
              clear cp_0 gp_0 cp_1 gp_1 cp_2 gp_2 cp_3 gp_3 cp_4 gp_4 cp_5 gp_5 cs_0 cs_1 cs_2 cs_3 cs_4 cs_5 cs_6 cs_7 cz_0 gz_0 cz_1 gz_1 cz_2 gz_2 cz_3 gz_3 cz_4 gz_4 cz_5 gz_5
              exact ⟨bodyPost_ret (v := .agg #[.int .i64 2, .int .i64 c, .int .i64 g, .int .i64 i, .int .i64 (cntS l true), .int .i64 f]) (results_arr Try.results20 A9 rfl (by kernel_rfl) (by kernel_rfl)) rfl ⟨by rw [HS.out], K9⟩⟩
            · cases pass
              · by_cases u : 5 ≤ cntS i true
                · have HS : Hid (plV (rfinS ⟨2, c, g, i, l, f⟩ ⟨false, false, slow, true, true, false, false, o⟩) = .agg #[.int .i64 1, .int .i64 0, .int .i64 0, .int .i64 0, .int .i64 0, .int .i64 (bits .or .i64 f 8)]) := by show plV _ = _; first | exact congrArg plV ((if_neg t).trans (if_pos u)) | rfl | exact congrArg plV (if_neg ho) | exact congrArg plV (if_neg t) | exact congrArg plV (if_neg u) | exact congrArg plV (if_pos u)
                  go_enter Try.func20, Try.ntmps20
                  go_wp2_with fail
                  refine (count_any l _ hl).mono ?_
                  rintro e w1 ⟨rfl, b1⟩
                  have A0_1 : Arr w.heap.size [.int .i64 2, .int .i64 c, .int .i64 g, .int .i64 i, .int .i64 l, .int .i64 f] w1 := (((Arr_at _ w.heap.size [.int .i64 2, .int .i64 c, .int .i64 g, .int .i64 i, .int .i64 l, .int .i64 f] 23 (by simp)).alloc _).alloc _).below b1
                  have A1_1 : Arr (w.heap.size + 1) [.bool false, .bool false, .bool slow, .bool true, .bool true, .bool false, .bool false, .int .i64 o] w1 := ((Arr_at _ (w.heap.size + 1) [.bool false, .bool false, .bool slow, .bool true, .bool true, .bool false, .bool false, .int .i64 o] 25 (by simp)).alloc _).below b1
                  have A2_1 : Arr (w.heap.size + 1 + 1) [.int .i64 0, .int .i64 0, .int .i64 0, .int .i64 0, .int .i64 0, .int .i64 0] w1 := (Arr_at _ (w.heap.size + 1 + 1) [.int .i64 0, .int .i64 0, .int .i64 0, .int .i64 0, .int .i64 0, .int .i64 0] 23 (by simp)).below b1
                  have K1 : Below w.heap.size w w1 := bel_then (bel_al (bel_al (bel_al (Below.refl w.heap.size w) _) _) _) b1
                  clear b1
                  have cp_0 : w1.cell? ⟨w.heap.size, 0, none⟩ = some (.int .i64 2) := A0_1.c 0 (of_decide_eq_true rfl)
                  have gp_0 := A0_1.f 0 (of_decide_eq_true rfl)
                  have cp_1 : w1.cell? ⟨w.heap.size, 1, none⟩ = some (.int .i64 c) := A0_1.c 1 (of_decide_eq_true rfl)
                  have gp_1 := A0_1.f 1 (of_decide_eq_true rfl)
                  have cp_2 : w1.cell? ⟨w.heap.size, 2, none⟩ = some (.int .i64 g) := A0_1.c 2 (of_decide_eq_true rfl)
                  have gp_2 := A0_1.f 2 (of_decide_eq_true rfl)
                  have cp_3 : w1.cell? ⟨w.heap.size, 3, none⟩ = some (.int .i64 i) := A0_1.c 3 (of_decide_eq_true rfl)
                  have gp_3 := A0_1.f 3 (of_decide_eq_true rfl)
                  have cp_4 : w1.cell? ⟨w.heap.size, 4, none⟩ = some (.int .i64 l) := A0_1.c 4 (of_decide_eq_true rfl)
                  have gp_4 := A0_1.f 4 (of_decide_eq_true rfl)
                  have cp_5 : w1.cell? ⟨w.heap.size, 5, none⟩ = some (.int .i64 f) := A0_1.c 5 (of_decide_eq_true rfl)
                  have gp_5 := A0_1.f 5 (of_decide_eq_true rfl)
                  have cs_0 : w1.cell? ⟨(w.heap.size + 1), 0, none⟩ = some (.bool false) := A1_1.c 0 (of_decide_eq_true rfl)
                  have cs_1 : w1.cell? ⟨(w.heap.size + 1), 1, none⟩ = some (.bool false) := A1_1.c 1 (of_decide_eq_true rfl)
                  have cs_2 : w1.cell? ⟨(w.heap.size + 1), 2, none⟩ = some (.bool slow) := A1_1.c 2 (of_decide_eq_true rfl)
                  have cs_3 : w1.cell? ⟨(w.heap.size + 1), 3, none⟩ = some (.bool true) := A1_1.c 3 (of_decide_eq_true rfl)
                  have cs_4 : w1.cell? ⟨(w.heap.size + 1), 4, none⟩ = some (.bool true) := A1_1.c 4 (of_decide_eq_true rfl)
                  have cs_5 : w1.cell? ⟨(w.heap.size + 1), 5, none⟩ = some (.bool false) := A1_1.c 5 (of_decide_eq_true rfl)
                  have cs_6 : w1.cell? ⟨(w.heap.size + 1), 6, none⟩ = some (.bool false) := A1_1.c 6 (of_decide_eq_true rfl)
                  have cs_7 : w1.cell? ⟨(w.heap.size + 1), 7, none⟩ = some (.int .i64 o) := A1_1.c 7 (of_decide_eq_true rfl)
                  have cz_0 : w1.cell? ⟨(w.heap.size + 1 + 1), 0, none⟩ = some (.int .i64 0) := A2_1.c 0 (of_decide_eq_true rfl)
                  have gz_0 := A2_1.f 0 (of_decide_eq_true rfl)
                  have cz_1 : w1.cell? ⟨(w.heap.size + 1 + 1), 1, none⟩ = some (.int .i64 0) := A2_1.c 1 (of_decide_eq_true rfl)
                  have gz_1 := A2_1.f 1 (of_decide_eq_true rfl)
                  have cz_2 : w1.cell? ⟨(w.heap.size + 1 + 1), 2, none⟩ = some (.int .i64 0) := A2_1.c 2 (of_decide_eq_true rfl)
                  have gz_2 := A2_1.f 2 (of_decide_eq_true rfl)
                  have cz_3 : w1.cell? ⟨(w.heap.size + 1 + 1), 3, none⟩ = some (.int .i64 0) := A2_1.c 3 (of_decide_eq_true rfl)
                  have gz_3 := A2_1.f 3 (of_decide_eq_true rfl)
                  have cz_4 : w1.cell? ⟨(w.heap.size + 1 + 1), 4, none⟩ = some (.int .i64 0) := A2_1.c 4 (of_decide_eq_true rfl)
                  have gz_4 := A2_1.f 4 (of_decide_eq_true rfl)
                  have cz_5 : w1.cell? ⟨(w.heap.size + 1 + 1), 5, none⟩ = some (.int .i64 0) := A2_1.c 5 (of_decide_eq_true rfl)
                  have gz_5 := A2_1.f 5 (of_decide_eq_true rfl)
                  have zz1 := A2_1.lies
                  go_wp2_with fail
                  refine (count_any i _ hi).mono ?_
                  rintro e w2 ⟨rfl, b2⟩
                  have A0_2 : Arr w.heap.size [.int .i64 2, .int .i64 c, .int .i64 g, .int .i64 i, .int .i64 (cntS l true), .int .i64 f] w2 := (A0_1.put 4 (of_decide_eq_true rfl) (.int .i64 (cntS l true)) [.int .i64 2, .int .i64 c, .int .i64 g, .int .i64 i, .int .i64 (cntS l true), .int .i64 f] rfl).below b2
                  have A1_2 : Arr (w.heap.size + 1) [.bool false, .bool false, .bool slow, .bool true, .bool true, .bool false, .bool false, .int .i64 o] w2 := (A1_1.new w.heap.size 4 (by omega) (.int .i64 (cntS l true))).below b2
                  have A2_2 : Arr (w.heap.size + 1 + 1) [.int .i64 0, .int .i64 0, .int .i64 0, .int .i64 0, .int .i64 0, .int .i64 0] w2 := (A2_1.new w.heap.size 4 (by omega) (.int .i64 (cntS l true))).below b2
                  have K2 : Below w.heap.size w w2 := bel_then (bel_new K1 w.heap.size 4 (by omega) (.int .i64 (cntS l true))) b2
                  clear A0_1 A1_1 A2_1 K1 cp_0 gp_0 cp_1 gp_1 cp_2 gp_2 cp_3 gp_3 cp_4 gp_4 cp_5 gp_5 cs_0 cs_1 cs_2 cs_3 cs_4 cs_5 cs_6 cs_7 cz_0 gz_0 cz_1 gz_1 cz_2 gz_2 cz_3 gz_3 cz_4 gz_4 cz_5 gz_5 zz1
                  clear b2
                  have cp_0 : w2.cell? ⟨w.heap.size, 0, none⟩ = some (.int .i64 2) := A0_2.c 0 (of_decide_eq_true rfl)
                  have gp_0 := A0_2.f 0 (of_decide_eq_true rfl)
                  have cp_1 : w2.cell? ⟨w.heap.size, 1, none⟩ = some (.int .i64 c) := A0_2.c 1 (of_decide_eq_true rfl)
                  have gp_1 := A0_2.f 1 (of_decide_eq_true rfl)
                  have cp_2 : w2.cell? ⟨w.heap.size, 2, none⟩ = some (.int .i64 g) := A0_2.c 2 (of_decide_eq_true rfl)
                  have gp_2 := A0_2.f 2 (of_decide_eq_true rfl)
                  have cp_3 : w2.cell? ⟨w.heap.size, 3, none⟩ = some (.int .i64 i) := A0_2.c 3 (of_decide_eq_true rfl)
                  have gp_3 := A0_2.f 3 (of_decide_eq_true rfl)
                  have cp_4 : w2.cell? ⟨w.heap.size, 4, none⟩ = some (.int .i64 (cntS l true)) := A0_2.c 4 (of_decide_eq_true rfl)
                  have gp_4 := A0_2.f 4 (of_decide_eq_true rfl)
                  have cp_5 : w2.cell? ⟨w.heap.size, 5, none⟩ = some (.int .i64 f) := A0_2.c 5 (of_decide_eq_true rfl)
                  have gp_5 := A0_2.f 5 (of_decide_eq_true rfl)
                  have cs_0 : w2.cell? ⟨(w.heap.size + 1), 0, none⟩ = some (.bool false) := A1_2.c 0 (of_decide_eq_true rfl)
                  have cs_1 : w2.cell? ⟨(w.heap.size + 1), 1, none⟩ = some (.bool false) := A1_2.c 1 (of_decide_eq_true rfl)
                  have cs_2 : w2.cell? ⟨(w.heap.size + 1), 2, none⟩ = some (.bool slow) := A1_2.c 2 (of_decide_eq_true rfl)
                  have cs_3 : w2.cell? ⟨(w.heap.size + 1), 3, none⟩ = some (.bool true) := A1_2.c 3 (of_decide_eq_true rfl)
                  have cs_4 : w2.cell? ⟨(w.heap.size + 1), 4, none⟩ = some (.bool true) := A1_2.c 4 (of_decide_eq_true rfl)
                  have cs_5 : w2.cell? ⟨(w.heap.size + 1), 5, none⟩ = some (.bool false) := A1_2.c 5 (of_decide_eq_true rfl)
                  have cs_6 : w2.cell? ⟨(w.heap.size + 1), 6, none⟩ = some (.bool false) := A1_2.c 6 (of_decide_eq_true rfl)
                  have cs_7 : w2.cell? ⟨(w.heap.size + 1), 7, none⟩ = some (.int .i64 o) := A1_2.c 7 (of_decide_eq_true rfl)
                  have cz_0 : w2.cell? ⟨(w.heap.size + 1 + 1), 0, none⟩ = some (.int .i64 0) := A2_2.c 0 (of_decide_eq_true rfl)
                  have gz_0 := A2_2.f 0 (of_decide_eq_true rfl)
                  have cz_1 : w2.cell? ⟨(w.heap.size + 1 + 1), 1, none⟩ = some (.int .i64 0) := A2_2.c 1 (of_decide_eq_true rfl)
                  have gz_1 := A2_2.f 1 (of_decide_eq_true rfl)
                  have cz_2 : w2.cell? ⟨(w.heap.size + 1 + 1), 2, none⟩ = some (.int .i64 0) := A2_2.c 2 (of_decide_eq_true rfl)
                  have gz_2 := A2_2.f 2 (of_decide_eq_true rfl)
                  have cz_3 : w2.cell? ⟨(w.heap.size + 1 + 1), 3, none⟩ = some (.int .i64 0) := A2_2.c 3 (of_decide_eq_true rfl)
                  have gz_3 := A2_2.f 3 (of_decide_eq_true rfl)
                  have cz_4 : w2.cell? ⟨(w.heap.size + 1 + 1), 4, none⟩ = some (.int .i64 0) := A2_2.c 4 (of_decide_eq_true rfl)
                  have gz_4 := A2_2.f 4 (of_decide_eq_true rfl)
                  have cz_5 : w2.cell? ⟨(w.heap.size + 1 + 1), 5, none⟩ = some (.int .i64 0) := A2_2.c 5 (of_decide_eq_true rfl)
                  have gz_5 := A2_2.f 5 (of_decide_eq_true rfl)
                  have zz2 := A2_2.lies
                  go_wp2_with fail
                  refine (to_any 1 (bits .or .i64 f 8) _).mono ?_
                  rintro e w3 ⟨rfl, b3⟩
                  have A0_3 : Arr w.heap.size [.int .i64 2, .int .i64 c, .int .i64 g, .int .i64 (cntS i true), .int .i64 (cntS l true), .int .i64 f] w3 := (A0_2.put 3 (of_decide_eq_true rfl) (.int .i64 (cntS i true)) [.int .i64 2, .int .i64 c, .int .i64 g, .int .i64 (cntS i true), .int .i64 (cntS l true), .int .i64 f] rfl).below b3
                  have A1_3 : Arr (w.heap.size + 1) [.bool false, .bool false, .bool slow, .bool true, .bool true, .bool false, .bool false, .int .i64 o] w3 := (A1_2.new w.heap.size 3 (by omega) (.int .i64 (cntS i true))).below b3
                  have A2_3 : Arr (w.heap.size + 1 + 1) [.int .i64 0, .int .i64 0, .int .i64 0, .int .i64 0, .int .i64 0, .int .i64 0] w3 := (A2_2.new w.heap.size 3 (by omega) (.int .i64 (cntS i true))).below b3
                  have K3 : Below w.heap.size w w3 := bel_then (bel_new K2 w.heap.size 3 (by omega) (.int .i64 (cntS i true))) b3
                  clear A0_2 A1_2 A2_2 K2 cp_0 gp_0 cp_1 gp_1 cp_2 gp_2 cp_3 gp_3 cp_4 gp_4 cp_5 gp_5 cs_0 cs_1 cs_2 cs_3 cs_4 cs_5 cs_6 cs_7 cz_0 gz_0 cz_1 gz_1 cz_2 gz_2 cz_3 gz_3 cz_4 gz_4 cz_5 gz_5 zz2
                  clear b3
                  have cp_0 : w3.cell? ⟨w.heap.size, 0, none⟩ = some (.int .i64 2) := A0_3.c 0 (of_decide_eq_true rfl)
                  have gp_0 := A0_3.f 0 (of_decide_eq_true rfl)
                  have cp_1 : w3.cell? ⟨w.heap.size, 1, none⟩ = some (.int .i64 c) := A0_3.c 1 (of_decide_eq_true rfl)
                  have gp_1 := A0_3.f 1 (of_decide_eq_true rfl)
                  have cp_2 : w3.cell? ⟨w.heap.size, 2, none⟩ = some (.int .i64 g) := A0_3.c 2 (of_decide_eq_true rfl)
                  have gp_2 := A0_3.f 2 (of_decide_eq_true rfl)
                  have cp_3 : w3.cell? ⟨w.heap.size, 3, none⟩ = some (.int .i64 (cntS i true)) := A0_3.c 3 (of_decide_eq_true rfl)
                  have gp_3 := A0_3.f 3 (of_decide_eq_true rfl)
                  have cp_4 : w3.cell? ⟨w.heap.size, 4, none⟩ = some (.int .i64 (cntS l true)) := A0_3.c 4 (of_decide_eq_true rfl)
                  have gp_4 := A0_3.f 4 (of_decide_eq_true rfl)
                  have cp_5 : w3.cell? ⟨w.heap.size, 5, none⟩ = some (.int .i64 f) := A0_3.c 5 (of_decide_eq_true rfl)
                  have gp_5 := A0_3.f 5 (of_decide_eq_true rfl)
                  have cs_0 : w3.cell? ⟨(w.heap.size + 1), 0, none⟩ = some (.bool false) := A1_3.c 0 (of_decide_eq_true rfl)
                  have cs_1 : w3.cell? ⟨(w.heap.size + 1), 1, none⟩ = some (.bool false) := A1_3.c 1 (of_decide_eq_true rfl)
                  have cs_2 : w3.cell? ⟨(w.heap.size + 1), 2, none⟩ = some (.bool slow) := A1_3.c 2 (of_decide_eq_true rfl)
                  have cs_3 : w3.cell? ⟨(w.heap.size + 1), 3, none⟩ = some (.bool true) := A1_3.c 3 (of_decide_eq_true rfl)
                  have cs_4 : w3.cell? ⟨(w.heap.size + 1), 4, none⟩ = some (.bool true) := A1_3.c 4 (of_decide_eq_true rfl)
                  have cs_5 : w3.cell? ⟨(w.heap.size + 1), 5, none⟩ = some (.bool false) := A1_3.c 5 (of_decide_eq_true rfl)
                  have cs_6 : w3.cell? ⟨(w.heap.size + 1), 6, none⟩ = some (.bool false) := A1_3.c 6 (of_decide_eq_true rfl)
                  have cs_7 : w3.cell? ⟨(w.heap.size + 1), 7, none⟩ = some (.int .i64 o) := A1_3.c 7 (of_decide_eq_true rfl)
                  have cz_0 : w3.cell? ⟨(w.heap.size + 1 + 1), 0, none⟩ = some (.int .i64 0) := A2_3.c 0 (of_decide_eq_true rfl)
                  have gz_0 := A2_3.f 0 (of_decide_eq_true rfl)
                  have cz_1 : w3.cell? ⟨(w.heap.size + 1 + 1), 1, none⟩ = some (.int .i64 0) := A2_3.c 1 (of_decide_eq_true rfl)
                  have gz_1 := A2_3.f 1 (of_decide_eq_true rfl)
                  have cz_2 : w3.cell? ⟨(w.heap.size + 1 + 1), 2, none⟩ = some (.int .i64 0) := A2_3.c 2 (of_decide_eq_true rfl)
                  have gz_2 := A2_3.f 2 (of_decide_eq_true rfl)
                  have cz_3 : w3.cell? ⟨(w.heap.size + 1 + 1), 3, none⟩ = some (.int .i64 0) := A2_3.c 3 (of_decide_eq_true rfl)
                  have gz_3 := A2_3.f 3 (of_decide_eq_true rfl)
                  have cz_4 : w3.cell? ⟨(w.heap.size + 1 + 1), 4, none⟩ = some (.int .i64 0) := A2_3.c 4 (of_decide_eq_true rfl)
                  have gz_4 := A2_3.f 4 (of_decide_eq_true rfl)
                  have cz_5 : w3.cell? ⟨(w.heap.size + 1 + 1), 5, none⟩ = some (.int .i64 0) := A2_3.c 5 (of_decide_eq_true rfl)
                  have gz_5 := A2_3.f 5 (of_decide_eq_true rfl)
                  have zz3 := A2_3.lies
                  go_wp2_with (with_reducible refine post_stop ?_)
                  have A9 := ((((((A2_3.put 0 (of_decide_eq_true rfl) (.int .i64 1) [.int .i64 1, .int .i64 0, .int .i64 0, .int .i64 0, .int .i64 0, .int .i64 0] rfl).put 1 (of_decide_eq_true rfl) (.int .i64 0) [.int .i64 1, .int .i64 0, .int .i64 0, .int .i64 0, .int .i64 0, .int .i64 0] rfl).put 2 (of_decide_eq_true rfl) (.int .i64 0) [.int .i64 1, .int .i64 0, .int .i64 0, .int .i64 0, .int .i64 0, .int .i64 0] rfl).put 3 (of_decide_eq_true rfl) (.int .i64 0) [.int .i64 1, .int .i64 0, .int .i64 0, .int .i64 0, .int .i64 0, .int .i64 0] rfl).put 4 (of_decide_eq_true rfl) (.int .i64 0) [.int .i64 1, .int .i64 0, .int .i64 0, .int .i64 0, .int .i64 0, .int .i64 0] rfl).put 5 (of_decide_eq_true rfl) (.int .i64 (bits .or .i64 f 8)) [.int .i64 1, .int .i64 0, .int .i64 0, .int .i64 0, .int .i64 0, .int .i64 (bits .or .i64 f 8)] rfl)
                  have K9 := (bel_new (bel_new (bel_new (bel_new (bel_new (bel_new K3 (w.heap.size + 1 + 1) 0 (by omega) (.int .i64 1)) (w.heap.size + 1 + 1) 1 (by omega) (.int .i64 0)) (w.heap.size + 1 + 1) 2 (by omega) (.int .i64 0)) (w.heap.size + 1 + 1) 3 (by omega) (.int .i64 0)) (w.heap.size + 1 + 1) 4 (by omega) (.int .i64 0)) (w.heap.size + 1 + 1) 5 (by omega) (.int .i64 (bits .or .i64 f 8)))
                  clear cp_0 gp_0 cp_1 gp_1 cp_2 gp_2 cp_3 gp_3 cp_4 gp_4 cp_5 gp_5 cs_0 cs_1 cs_2 cs_3 cs_4 cs_5 cs_6 cs_7 cz_0 gz_0 cz_1 gz_1 cz_2 gz_2 cz_3 gz_3 cz_4 gz_4 cz_5 gz_5
                  exact ⟨bodyPost_ret (v := .agg #[.int .i64 1, .int .i64 0, .int .i64 0, .int .i64 0, .int .i64 0, .int .i64 (bits .or .i64 f 8)]) (results_arr Try.results20 A9 rfl (by kernel_rfl) (by kernel_rfl)) rfl ⟨by rw [HS.out], K9⟩⟩
                · have HS : Hid (plV (rfinS ⟨2, c, g, i, l, f⟩ ⟨false, false, slow, true, true, false, false, o⟩) = .agg #[.int .i64 2, .int .i64 c, .int .i64 g, .int .i64 (cntS i true), .int .i64 (cntS l true), .int .i64 f]) := by show plV _ = _; first | exact congrArg plV ((if_neg t).trans (if_neg u)) | rfl | exact congrArg plV (if_neg ho) | exact congrArg plV (if_neg t) | exact congrArg plV (if_neg u) | exact congrArg plV (if_pos u)
                  go_enter Try.func20, Try.ntmps20
                  go_wp2_with fail
                  refine (count_any l _ hl).mono ?_
                  rintro e w1 ⟨rfl, b1⟩
                  have A0_1 : Arr w.heap.size [.int .i64 2, .int .i64 c, .int .i64 g, .int .i64 i, .int .i64 l, .int .i64 f] w1 := (((Arr_at _ w.heap.size [.int .i64 2, .int .i64 c, .int .i64 g, .int .i64 i, .int .i64 l, .int .i64 f] 23 (by simp)).alloc _).alloc _).below b1
                  have A1_1 : Arr (w.heap.size + 1) [.bool false, .bool false, .bool slow, .bool true, .bool true, .bool false, .bool false, .int .i64 o] w1 := ((Arr_at _ (w.heap.size + 1) [.bool false, .bool false, .bool slow, .bool true, .bool true, .bool false, .bool false, .int .i64 o] 25 (by simp)).alloc _).below b1
                  have A2_1 : Arr (w.heap.size + 1 + 1) [.int .i64 0, .int .i64 0, .int .i64 0, .int .i64 0, .int .i64 0, .int .i64 0] w1 := (Arr_at _ (w.heap.size + 1 + 1) [.int .i64 0, .int .i64 0, .int .i64 0, .int .i64 0, .int .i64 0, .int .i64 0] 23 (by simp)).below b1
                  have K1 : Below w.heap.size w w1 := bel_then (bel_al (bel_al (bel_al (Below.refl w.heap.size w) _) _) _) b1
                  clear b1
                  have cp_0 : w1.cell? ⟨w.heap.size, 0, none⟩ = some (.int .i64 2) := A0_1.c 0 (of_decide_eq_true rfl)
                  have gp_0 := A0_1.f 0 (of_decide_eq_true rfl)
                  have cp_1 : w1.cell? ⟨w.heap.size, 1, none⟩ = some (.int .i64 c) := A0_1.c 1 (of_decide_eq_true rfl)
                  have gp_1 := A0_1.f 1 (of_decide_eq_true rfl)
                  have cp_2 : w1.cell? ⟨w.heap.size, 2, none⟩ = some (.int .i64 g) := A0_1.c 2 (of_decide_eq_true rfl)
                  have gp_2 := A0_1.f 2 (of_decide_eq_true rfl)
                  have cp_3 : w1.cell? ⟨w.heap.size, 3, none⟩ = some (.int .i64 i) := A0_1.c 3 (of_decide_eq_true rfl)
                  have gp_3 := A0_1.f 3 (of_decide_eq_true rfl)
                  have cp_4 : w1.cell? ⟨w.heap.size, 4, none⟩ = some (.int .i64 l) := A0_1.c 4 (of_decide_eq_true rfl)
                  have gp_4 := A0_1.f 4 (of_decide_eq_true rfl)
                  have cp_5 : w1.cell? ⟨w.heap.size, 5, none⟩ = some (.int .i64 f) := A0_1.c 5 (of_decide_eq_true rfl)
                  have gp_5 := A0_1.f 5 (of_decide_eq_true rfl)
                  have cs_0 : w1.cell? ⟨(w.heap.size + 1), 0, none⟩ = some (.bool false) := A1_1.c 0 (of_decide_eq_true rfl)
                  have cs_1 : w1.cell? ⟨(w.heap.size + 1), 1, none⟩ = some (.bool false) := A1_1.c 1 (of_decide_eq_true rfl)
                  have cs_2 : w1.cell? ⟨(w.heap.size + 1), 2, none⟩ = some (.bool slow) := A1_1.c 2 (of_decide_eq_true rfl)
                  have cs_3 : w1.cell? ⟨(w.heap.size + 1), 3, none⟩ = some (.bool true) := A1_1.c 3 (of_decide_eq_true rfl)
                  have cs_4 : w1.cell? ⟨(w.heap.size + 1), 4, none⟩ = some (.bool true) := A1_1.c 4 (of_decide_eq_true rfl)
                  have cs_5 : w1.cell? ⟨(w.heap.size + 1), 5, none⟩ = some (.bool false) := A1_1.c 5 (of_decide_eq_true rfl)
                  have cs_6 : w1.cell? ⟨(w.heap.size + 1), 6, none⟩ = some (.bool false) := A1_1.c 6 (of_decide_eq_true rfl)
                  have cs_7 : w1.cell? ⟨(w.heap.size + 1), 7, none⟩ = some (.int .i64 o) := A1_1.c 7 (of_decide_eq_true rfl)
                  have cz_0 : w1.cell? ⟨(w.heap.size + 1 + 1), 0, none⟩ = some (.int .i64 0) := A2_1.c 0 (of_decide_eq_true rfl)
                  have gz_0 := A2_1.f 0 (of_decide_eq_true rfl)
                  have cz_1 : w1.cell? ⟨(w.heap.size + 1 + 1), 1, none⟩ = some (.int .i64 0) := A2_1.c 1 (of_decide_eq_true rfl)
                  have gz_1 := A2_1.f 1 (of_decide_eq_true rfl)
                  have cz_2 : w1.cell? ⟨(w.heap.size + 1 + 1), 2, none⟩ = some (.int .i64 0) := A2_1.c 2 (of_decide_eq_true rfl)
                  have gz_2 := A2_1.f 2 (of_decide_eq_true rfl)
                  have cz_3 : w1.cell? ⟨(w.heap.size + 1 + 1), 3, none⟩ = some (.int .i64 0) := A2_1.c 3 (of_decide_eq_true rfl)
                  have gz_3 := A2_1.f 3 (of_decide_eq_true rfl)
                  have cz_4 : w1.cell? ⟨(w.heap.size + 1 + 1), 4, none⟩ = some (.int .i64 0) := A2_1.c 4 (of_decide_eq_true rfl)
                  have gz_4 := A2_1.f 4 (of_decide_eq_true rfl)
                  have cz_5 : w1.cell? ⟨(w.heap.size + 1 + 1), 5, none⟩ = some (.int .i64 0) := A2_1.c 5 (of_decide_eq_true rfl)
                  have gz_5 := A2_1.f 5 (of_decide_eq_true rfl)
                  have zz1 := A2_1.lies
                  go_wp2_with fail
                  refine (count_any i _ hi).mono ?_
                  rintro e w2 ⟨rfl, b2⟩
                  have A0_2 : Arr w.heap.size [.int .i64 2, .int .i64 c, .int .i64 g, .int .i64 i, .int .i64 (cntS l true), .int .i64 f] w2 := (A0_1.put 4 (of_decide_eq_true rfl) (.int .i64 (cntS l true)) [.int .i64 2, .int .i64 c, .int .i64 g, .int .i64 i, .int .i64 (cntS l true), .int .i64 f] rfl).below b2
                  have A1_2 : Arr (w.heap.size + 1) [.bool false, .bool false, .bool slow, .bool true, .bool true, .bool false, .bool false, .int .i64 o] w2 := (A1_1.new w.heap.size 4 (by omega) (.int .i64 (cntS l true))).below b2
                  have A2_2 : Arr (w.heap.size + 1 + 1) [.int .i64 0, .int .i64 0, .int .i64 0, .int .i64 0, .int .i64 0, .int .i64 0] w2 := (A2_1.new w.heap.size 4 (by omega) (.int .i64 (cntS l true))).below b2
                  have K2 : Below w.heap.size w w2 := bel_then (bel_new K1 w.heap.size 4 (by omega) (.int .i64 (cntS l true))) b2
                  clear A0_1 A1_1 A2_1 K1 cp_0 gp_0 cp_1 gp_1 cp_2 gp_2 cp_3 gp_3 cp_4 gp_4 cp_5 gp_5 cs_0 cs_1 cs_2 cs_3 cs_4 cs_5 cs_6 cs_7 cz_0 gz_0 cz_1 gz_1 cz_2 gz_2 cz_3 gz_3 cz_4 gz_4 cz_5 gz_5 zz1
                  clear b2
                  have cp_0 : w2.cell? ⟨w.heap.size, 0, none⟩ = some (.int .i64 2) := A0_2.c 0 (of_decide_eq_true rfl)
                  have gp_0 := A0_2.f 0 (of_decide_eq_true rfl)
                  have cp_1 : w2.cell? ⟨w.heap.size, 1, none⟩ = some (.int .i64 c) := A0_2.c 1 (of_decide_eq_true rfl)
                  have gp_1 := A0_2.f 1 (of_decide_eq_true rfl)
                  have cp_2 : w2.cell? ⟨w.heap.size, 2, none⟩ = some (.int .i64 g) := A0_2.c 2 (of_decide_eq_true rfl)
                  have gp_2 := A0_2.f 2 (of_decide_eq_true rfl)
                  have cp_3 : w2.cell? ⟨w.heap.size, 3, none⟩ = some (.int .i64 i) := A0_2.c 3 (of_decide_eq_true rfl)
                  have gp_3 := A0_2.f 3 (of_decide_eq_true rfl)
                  have cp_4 : w2.cell? ⟨w.heap.size, 4, none⟩ = some (.int .i64 (cntS l true)) := A0_2.c 4 (of_decide_eq_true rfl)
                  have gp_4 := A0_2.f 4 (of_decide_eq_true rfl)
                  have cp_5 : w2.cell? ⟨w.heap.size, 5, none⟩ = some (.int .i64 f) := A0_2.c 5 (of_decide_eq_true rfl)
                  have gp_5 := A0_2.f 5 (of_decide_eq_true rfl)
                  have cs_0 : w2.cell? ⟨(w.heap.size + 1), 0, none⟩ = some (.bool false) := A1_2.c 0 (of_decide_eq_true rfl)
                  have cs_1 : w2.cell? ⟨(w.heap.size + 1), 1, none⟩ = some (.bool false) := A1_2.c 1 (of_decide_eq_true rfl)
                  have cs_2 : w2.cell? ⟨(w.heap.size + 1), 2, none⟩ = some (.bool slow) := A1_2.c 2 (of_decide_eq_true rfl)
                  have cs_3 : w2.cell? ⟨(w.heap.size + 1), 3, none⟩ = some (.bool true) := A1_2.c 3 (of_decide_eq_true rfl)
                  have cs_4 : w2.cell? ⟨(w.heap.size + 1), 4, none⟩ = some (.bool true) := A1_2.c 4 (of_decide_eq_true rfl)
                  have cs_5 : w2.cell? ⟨(w.heap.size + 1), 5, none⟩ = some (.bool false) := A1_2.c 5 (of_decide_eq_true rfl)
                  have cs_6 : w2.cell? ⟨(w.heap.size + 1), 6, none⟩ = some (.bool false) := A1_2.c 6 (of_decide_eq_true rfl)
                  have cs_7 : w2.cell? ⟨(w.heap.size + 1), 7, none⟩ = some (.int .i64 o) := A1_2.c 7 (of_decide_eq_true rfl)
                  have cz_0 : w2.cell? ⟨(w.heap.size + 1 + 1), 0, none⟩ = some (.int .i64 0) := A2_2.c 0 (of_decide_eq_true rfl)
                  have gz_0 := A2_2.f 0 (of_decide_eq_true rfl)
                  have cz_1 : w2.cell? ⟨(w.heap.size + 1 + 1), 1, none⟩ = some (.int .i64 0) := A2_2.c 1 (of_decide_eq_true rfl)
                  have gz_1 := A2_2.f 1 (of_decide_eq_true rfl)
                  have cz_2 : w2.cell? ⟨(w.heap.size + 1 + 1), 2, none⟩ = some (.int .i64 0) := A2_2.c 2 (of_decide_eq_true rfl)
                  have gz_2 := A2_2.f 2 (of_decide_eq_true rfl)
                  have cz_3 : w2.cell? ⟨(w.heap.size + 1 + 1), 3, none⟩ = some (.int .i64 0) := A2_2.c 3 (of_decide_eq_true rfl)
                  have gz_3 := A2_2.f 3 (of_decide_eq_true rfl)
                  have cz_4 : w2.cell? ⟨(w.heap.size + 1 + 1), 4, none⟩ = some (.int .i64 0) := A2_2.c 4 (of_decide_eq_true rfl)
                  have gz_4 := A2_2.f 4 (of_decide_eq_true rfl)
                  have cz_5 : w2.cell? ⟨(w.heap.size + 1 + 1), 5, none⟩ = some (.int .i64 0) := A2_2.c 5 (of_decide_eq_true rfl)
                  have gz_5 := A2_2.f 5 (of_decide_eq_true rfl)
                  have zz2 := A2_2.lies
                  go_wp2_with (with_reducible refine post_stop ?_)
                  have A9 := (((((((A2_2.new w.heap.size 3 (by omega) (.int .i64 (cntS i true))).put 0 (of_decide_eq_true rfl) (.int .i64 2) [.int .i64 2, .int .i64 0, .int .i64 0, .int .i64 0, .int .i64 0, .int .i64 0] rfl).put 1 (of_decide_eq_true rfl) (.int .i64 c) [.int .i64 2, .int .i64 c, .int .i64 0, .int .i64 0, .int .i64 0, .int .i64 0] rfl).put 2 (of_decide_eq_true rfl) (.int .i64 g) [.int .i64 2, .int .i64 c, .int .i64 g, .int .i64 0, .int .i64 0, .int .i64 0] rfl).put 3 (of_decide_eq_true rfl) (.int .i64 (cntS i true)) [.int .i64 2, .int .i64 c, .int .i64 g, .int .i64 (cntS i true), .int .i64 0, .int .i64 0] rfl).put 4 (of_decide_eq_true rfl) (.int .i64 (cntS l true)) [.int .i64 2, .int .i64 c, .int .i64 g, .int .i64 (cntS i true), .int .i64 (cntS l true), .int .i64 0] rfl).put 5 (of_decide_eq_true rfl) (.int .i64 f) [.int .i64 2, .int .i64 c, .int .i64 g, .int .i64 (cntS i true), .int .i64 (cntS l true), .int .i64 f] rfl)
                  have K9 := (bel_new (bel_new (bel_new (bel_new (bel_new (bel_new (bel_new K2 w.heap.size 3 (by omega) (.int .i64 (cntS i true))) (w.heap.size + 1 + 1) 0 (by omega) (.int .i64 2)) (w.heap.size + 1 + 1) 1 (by omega) (.int .i64 c)) (w.heap.size + 1 + 1) 2 (by omega) (.int .i64 g)) (w.heap.size + 1 + 1) 3 (by omega) (.int .i64 (cntS i true))) (w.heap.size + 1 + 1) 4 (by omega) (.int .i64 (cntS l true))) (w.heap.size + 1 + 1) 5 (by omega) (.int .i64 f))
                  clear cp_0 gp_0 cp_1 gp_1 cp_2 gp_2 cp_3 gp_3 cp_4 gp_4 cp_5 gp_5 cs_0 cs_1 cs_2 cs_3 cs_4 cs_5 cs_6 cs_7 cz_0 gz_0 cz_1 gz_1 cz_2 gz_2 cz_3 gz_3 cz_4 gz_4 cz_5 gz_5
                  exact ⟨bodyPost_ret (v := .agg #[.int .i64 2, .int .i64 c, .int .i64 g, .int .i64 (cntS i true), .int .i64 (cntS l true), .int .i64 f]) (results_arr Try.results20 A9 rfl (by kernel_rfl) (by kernel_rfl)) rfl ⟨by rw [HS.out], K9⟩⟩
              · have HS : Hid (plV (rfinS ⟨2, c, g, i, l, f⟩ ⟨false, false, slow, true, true, false, true, o⟩) = .agg #[.int .i64 2, .int .i64 c, .int .i64 g, .int .i64 0, .int .i64 (cntS l true), .int .i64 f]) := by show plV _ = _; first | exact congrArg plV ((if_neg t).trans (if_neg (show ¬ (5 : Int) ≤ 0 by decide))) | rfl | exact congrArg plV (if_neg ho) | exact congrArg plV (if_neg t) | exact congrArg plV (if_neg u) | exact congrArg plV (if_pos u)
                go_enter Try.func20, Try.ntmps20
                go_wp2_with fail
                refine (count_any l _ hl).mono ?_
                rintro e w1 ⟨rfl, b1⟩
                have A0_1 : Arr w.heap.size [.int .i64 2, .int .i64 c, .int .i64 g, .int .i64 i, .int .i64 l, .int .i64 f] w1 := (((Arr_at _ w.heap.size [.int .i64 2, .int .i64 c, .int .i64 g, .int .i64 i, .int .i64 l, .int .i64 f] 23 (by simp)).alloc _).alloc _).below b1
                have A1_1 : Arr (w.heap.size + 1) [.bool false, .bool false, .bool slow, .bool true, .bool true, .bool false, .bool true, .int .i64 o] w1 := ((Arr_at _ (w.heap.size + 1) [.bool false, .bool false, .bool slow, .bool true, .bool true, .bool false, .bool true, .int .i64 o] 25 (by simp)).alloc _).below b1
                have A2_1 : Arr (w.heap.size + 1 + 1) [.int .i64 0, .int .i64 0, .int .i64 0, .int .i64 0, .int .i64 0, .int .i64 0] w1 := (Arr_at _ (w.heap.size + 1 + 1) [.int .i64 0, .int .i64 0, .int .i64 0, .int .i64 0, .int .i64 0, .int .i64 0] 23 (by simp)).below b1
                have K1 : Below w.heap.size w w1 := bel_then (bel_al (bel_al (bel_al (Below.refl w.heap.size w) _) _) _) b1
                clear b1
                have cp_0 : w1.cell? ⟨w.heap.size, 0, none⟩ = some (.int .i64 2) := A0_1.c 0 (of_decide_eq_true rfl)
                have gp_0 := A0_1.f 0 (of_decide_eq_true rfl)
                have cp_1 : w1.cell? ⟨w.heap.size, 1, none⟩ = some (.int .i64 c) := A0_1.c 1 (of_decide_eq_true rfl)
                have gp_1 := A0_1.f 1 (of_decide_eq_true rfl)
                have cp_2 : w1.cell? ⟨w.heap.size, 2, none⟩ = some (.int .i64 g) := A0_1.c 2 (of_decide_eq_true rfl)
                have gp_2 := A0_1.f 2 (of_decide_eq_true rfl)
                have cp_3 : w1.cell? ⟨w.heap.size, 3, none⟩ = some (.int .i64 i) := A0_1.c 3 (of_decide_eq_true rfl)
                have gp_3 := A0_1.f 3 (of_decide_eq_true rfl)
                have cp_4 : w1.cell? ⟨w.heap.size, 4, none⟩ = some (.int .i64 l) := A0_1.c 4 (of_decide_eq_true rfl)
                have gp_4 := A0_1.f 4 (of_decide_eq_true rfl)
                have cp_5 : w1.cell? ⟨w.heap.size, 5, none⟩ = some (.int .i64 f) := A0_1.c 5 (of_decide_eq_true rfl)
                have gp_5 := A0_1.f 5 (of_decide_eq_true rfl)
                have cs_0 : w1.cell? ⟨(w.heap.size + 1), 0, none⟩ = some (.bool false) := A1_1.c 0 (of_decide_eq_true rfl)
                have cs_1 : w1.cell? ⟨(w.heap.size + 1), 1, none⟩ = some (.bool false) := A1_1.c 1 (of_decide_eq_true rfl)
                have cs_2 : w1.cell? ⟨(w.heap.size + 1), 2, none⟩ = some (.bool slow) := A1_1.c 2 (of_decide_eq_true rfl)
                have cs_3 : w1.cell? ⟨(w.heap.size + 1), 3, none⟩ = some (.bool true) := A1_1.c 3 (of_decide_eq_true rfl)
                have cs_4 : w1.cell? ⟨(w.heap.size + 1), 4, none⟩ = some (.bool true) := A1_1.c 4 (of_decide_eq_true rfl)
                have cs_5 : w1.cell? ⟨(w.heap.size + 1), 5, none⟩ = some (.bool false) := A1_1.c 5 (of_decide_eq_true rfl)
                have cs_6 : w1.cell? ⟨(w.heap.size + 1), 6, none⟩ = some (.bool true) := A1_1.c 6 (of_decide_eq_true rfl)
                have cs_7 : w1.cell? ⟨(w.heap.size + 1), 7, none⟩ = some (.int .i64 o) := A1_1.c 7 (of_decide_eq_true rfl)
                have cz_0 : w1.cell? ⟨(w.heap.size + 1 + 1), 0, none⟩ = some (.int .i64 0) := A2_1.c 0 (of_decide_eq_true rfl)
                have gz_0 := A2_1.f 0 (of_decide_eq_true rfl)
                have cz_1 : w1.cell? ⟨(w.heap.size + 1 + 1), 1, none⟩ = some (.int .i64 0) := A2_1.c 1 (of_decide_eq_true rfl)
                have gz_1 := A2_1.f 1 (of_decide_eq_true rfl)
                have cz_2 : w1.cell? ⟨(w.heap.size + 1 + 1), 2, none⟩ = some (.int .i64 0) := A2_1.c 2 (of_decide_eq_true rfl)
                have gz_2 := A2_1.f 2 (of_decide_eq_true rfl)
                have cz_3 : w1.cell? ⟨(w.heap.size + 1 + 1), 3, none⟩ = some (.int .i64 0) := A2_1.c 3 (of_decide_eq_true rfl)
                have gz_3 := A2_1.f 3 (of_decide_eq_true rfl)
                have cz_4 : w1.cell? ⟨(w.heap.size + 1 + 1), 4, none⟩ = some (.int .i64 0) := A2_1.c 4 (of_decide_eq_true rfl)
                have gz_4 := A2_1.f 4 (of_decide_eq_true rfl)
                have cz_5 : w1.cell? ⟨(w.heap.size + 1 + 1), 5, none⟩ = some (.int .i64 0) := A2_1.c 5 (of_decide_eq_true rfl)
                have gz_5 := A2_1.f 5 (of_decide_eq_true rfl)
                have zz1 := A2_1.lies
                go_wp2_with (with_reducible refine post_stop ?_)
                have A9 := ((((((((A2_1.new w.heap.size 4 (by omega) (.int .i64 (cntS l true))).new w.heap.size 3 (by omega) (.int .i64 0)).put 0 (of_decide_eq_true rfl) (.int .i64 2) [.int .i64 2, .int .i64 0, .int .i64 0, .int .i64 0, .int .i64 0, .int .i64 0] rfl).put 1 (of_decide_eq_true rfl) (.int .i64 c) [.int .i64 2, .int .i64 c, .int .i64 0, .int .i64 0, .int .i64 0, .int .i64 0] rfl).put 2 (of_decide_eq_true rfl) (.int .i64 g) [.int .i64 2, .int .i64 c, .int .i64 g, .int .i64 0, .int .i64 0, .int .i64 0] rfl).put 3 (of_decide_eq_true rfl) (.int .i64 0) [.int .i64 2, .int .i64 c, .int .i64 g, .int .i64 0, .int .i64 0, .int .i64 0] rfl).put 4 (of_decide_eq_true rfl) (.int .i64 (cntS l true)) [.int .i64 2, .int .i64 c, .int .i64 g, .int .i64 0, .int .i64 (cntS l true), .int .i64 0] rfl).put 5 (of_decide_eq_true rfl) (.int .i64 f) [.int .i64 2, .int .i64 c, .int .i64 g, .int .i64 0, .int .i64 (cntS l true), .int .i64 f] rfl)
                have K9 := (bel_new (bel_new (bel_new (bel_new (bel_new (bel_new (bel_new (bel_new K1 w.heap.size 4 (by omega) (.int .i64 (cntS l true))) w.heap.size 3 (by omega) (.int .i64 0)) (w.heap.size + 1 + 1) 0 (by omega) (.int .i64 2)) (w.heap.size + 1 + 1) 1 (by omega) (.int .i64 c)) (w.heap.size + 1 + 1) 2 (by omega) (.int .i64 g)) (w.heap.size + 1 + 1) 3 (by omega) (.int .i64 0)) (w.heap.size + 1 + 1) 4 (by omega) (.int .i64 (cntS l true))) (w.heap.size + 1 + 1) 5 (by omega) (.int .i64 f))
                clear cp_0 gp_0 cp_1 gp_1 cp_2 gp_2 cp_3 gp_3 cp_4 gp_4 cp_5 gp_5 cs_0 cs_1 cs_2 cs_3 cs_4 cs_5 cs_6 cs_7 cz_0 gz_0 cz_1 gz_1 cz_2 gz_2 cz_3 gz_3 cz_4 gz_4 cz_5 gz_5
                exact ⟨bodyPost_ret (v := .agg #[.int .i64 2, .int .i64 c, .int .i64 g, .int .i64 0, .int .i64 (cntS l true), .int .i64 f]) (results_arr Try.results20 A9 rfl (by kernel_rfl) (by kernel_rfl)) rfl ⟨by rw [HS.out], K9⟩⟩
      · have t : ¬ 3 ≤ cntS l false := by show ¬ (3 : Int) ≤ 0; decide
        cases pair
        · have HS : Hid (plV (rfinS ⟨2, c, g, i, l, f⟩ ⟨false, true, slow, false, lit, false, pass, o⟩) = .agg #[.int .i64 2, .int .i64 c, .int .i64 g, .int .i64 i, .int .i64 0, .int .i64 f]) := by show plV _ = _; first | exact congrArg plV (if_neg t) | rfl | exact congrArg plV (if_neg ho) | exact congrArg plV (if_neg t) | exact congrArg plV (if_neg u) | exact congrArg plV (if_pos u)
          go_enter Try.func20, Try.ntmps20
          go_wp2_with (with_reducible refine post_stop ?_)
          exact ⟨bodyPost_ret (v := .agg #[.int .i64 2, .int .i64 c, .int .i64 g, .int .i64 i, .int .i64 0, .int .i64 f]) (by simp [results, Try.results20, go_sem]) rfl ⟨by rw [HS.out], (bel_al (bel_al (bel_al (Below.refl w.heap.size w) _) _) _)⟩⟩
        · cases lit
          · have HS : Hid (plV (rfinS ⟨2, c, g, i, l, f⟩ ⟨false, true, slow, true, false, false, pass, o⟩) = .agg #[.int .i64 2, .int .i64 c, .int .i64 g, .int .i64 i, .int .i64 0, .int .i64 f]) := by show plV _ = _; first | exact congrArg plV (if_neg t) | rfl | exact congrArg plV (if_neg ho) | exact congrArg plV (if_neg t) | exact congrArg plV (if_neg u) | exact congrArg plV (if_pos u)
            go_enter Try.func20, Try.ntmps20
            go_wp2_with (with_reducible refine post_stop ?_)
            exact ⟨bodyPost_ret (v := .agg #[.int .i64 2, .int .i64 c, .int .i64 g, .int .i64 i, .int .i64 0, .int .i64 f]) (by simp [results, Try.results20, go_sem]) rfl ⟨by rw [HS.out], (bel_al (bel_al (bel_al (Below.refl w.heap.size w) _) _) _)⟩⟩
          · cases pass
            · by_cases u : 5 ≤ cntS i true
              · have HS : Hid (plV (rfinS ⟨2, c, g, i, l, f⟩ ⟨false, true, slow, true, true, false, false, o⟩) = .agg #[.int .i64 1, .int .i64 0, .int .i64 0, .int .i64 0, .int .i64 0, .int .i64 (bits .or .i64 f 8)]) := by show plV _ = _; first | exact congrArg plV ((if_neg t).trans (if_pos u)) | rfl | exact congrArg plV (if_neg ho) | exact congrArg plV (if_neg t) | exact congrArg plV (if_neg u) | exact congrArg plV (if_pos u)
                go_enter Try.func20, Try.ntmps20
                go_wp2_with fail
                refine (count_any i _ hi).mono ?_
                rintro e w1 ⟨rfl, b1⟩
                have A0_1 : Arr w.heap.size [.int .i64 2, .int .i64 c, .int .i64 g, .int .i64 i, .int .i64 0, .int .i64 f] w1 := (((Arr_at _ w.heap.size [.int .i64 2, .int .i64 c, .int .i64 g, .int .i64 i, .int .i64 0, .int .i64 f] 23 (by simp)).alloc _).alloc _).below b1
                have A1_1 : Arr (w.heap.size + 1) [.bool false, .bool true, .bool slow, .bool true, .bool true, .bool false, .bool false, .int .i64 o] w1 := ((Arr_at _ (w.heap.size + 1) [.bool false, .bool true, .bool slow, .bool true, .bool true, .bool false, .bool false, .int .i64 o] 25 (by simp)).alloc _).below b1
                have A2_1 : Arr (w.heap.size + 1 + 1) [.int .i64 0, .int .i64 0, .int .i64 0, .int .i64 0, .int .i64 0, .int .i64 0] w1 := (Arr_at _ (w.heap.size + 1 + 1) [.int .i64 0, .int .i64 0, .int .i64 0, .int .i64 0, .int .i64 0, .int .i64 0] 23 (by simp)).below b1
                have K1 : Below w.heap.size w w1 := bel_then (bel_al (bel_al (bel_al (Below.refl w.heap.size w) _) _) _) b1
                clear b1
                have cp_0 : w1.cell? ⟨w.heap.size, 0, none⟩ = some (.int .i64 2) := A0_1.c 0 (of_decide_eq_true rfl)
                have gp_0 := A0_1.f 0 (of_decide_eq_true rfl)
                have cp_1 : w1.cell? ⟨w.heap.size, 1, none⟩ = some (.int .i64 c) := A0_1.c 1 (of_decide_eq_true rfl)
                have gp_1 := A0_1.f 1 (of_decide_eq_true rfl)
                have cp_2 : w1.cell? ⟨w.heap.size, 2, none⟩ = some (.int .i64 g) := A0_1.c 2 (of_decide_eq_true rfl)
                have gp_2 := A0_1.f 2 (of_decide_eq_true rfl)
                have cp_3 : w1.cell? ⟨w.heap.size, 3, none⟩ = some (.int .i64 i) := A0_1.c 3 (of_decide_eq_true rfl)
                have gp_3 := A0_1.f 3 (of_decide_eq_true rfl)
                have cp_4 : w1.cell? ⟨w.heap.size, 4, none⟩ = some (.int .i64 0) := A0_1.c 4 (of_decide_eq_true rfl)
                have gp_4 := A0_1.f 4 (of_decide_eq_true rfl)
                have cp_5 : w1.cell? ⟨w.heap.size, 5, none⟩ = some (.int .i64 f) := A0_1.c 5 (of_decide_eq_true rfl)
                have gp_5 := A0_1.f 5 (of_decide_eq_true rfl)
                have cs_0 : w1.cell? ⟨(w.heap.size + 1), 0, none⟩ = some (.bool false) := A1_1.c 0 (of_decide_eq_true rfl)
                have cs_1 : w1.cell? ⟨(w.heap.size + 1), 1, none⟩ = some (.bool true) := A1_1.c 1 (of_decide_eq_true rfl)
                have cs_2 : w1.cell? ⟨(w.heap.size + 1), 2, none⟩ = some (.bool slow) := A1_1.c 2 (of_decide_eq_true rfl)
                have cs_3 : w1.cell? ⟨(w.heap.size + 1), 3, none⟩ = some (.bool true) := A1_1.c 3 (of_decide_eq_true rfl)
                have cs_4 : w1.cell? ⟨(w.heap.size + 1), 4, none⟩ = some (.bool true) := A1_1.c 4 (of_decide_eq_true rfl)
                have cs_5 : w1.cell? ⟨(w.heap.size + 1), 5, none⟩ = some (.bool false) := A1_1.c 5 (of_decide_eq_true rfl)
                have cs_6 : w1.cell? ⟨(w.heap.size + 1), 6, none⟩ = some (.bool false) := A1_1.c 6 (of_decide_eq_true rfl)
                have cs_7 : w1.cell? ⟨(w.heap.size + 1), 7, none⟩ = some (.int .i64 o) := A1_1.c 7 (of_decide_eq_true rfl)
                have cz_0 : w1.cell? ⟨(w.heap.size + 1 + 1), 0, none⟩ = some (.int .i64 0) := A2_1.c 0 (of_decide_eq_true rfl)
                have gz_0 := A2_1.f 0 (of_decide_eq_true rfl)
                have cz_1 : w1.cell? ⟨(w.heap.size + 1 + 1), 1, none⟩ = some (.int .i64 0) := A2_1.c 1 (of_decide_eq_true rfl)
                have gz_1 := A2_1.f 1 (of_decide_eq_true rfl)
                have cz_2 : w1.cell? ⟨(w.heap.size + 1 + 1), 2, none⟩ = some (.int .i64 0) := A2_1.c 2 (of_decide_eq_true rfl)
                have gz_2 := A2_1.f 2 (of_decide_eq_true rfl)
                have cz_3 : w1.cell? ⟨(w.heap.size + 1 + 1), 3, none⟩ = some (.int .i64 0) := A2_1.c 3 (of_decide_eq_true rfl)
                have gz_3 := A2_1.f 3 (of_decide_eq_true rfl)
                have cz_4 : w1.cell? ⟨(w.heap.size + 1 + 1), 4, none⟩ = some (.int .i64 0) := A2_1.c 4 (of_decide_eq_true rfl)
                have gz_4 := A2_1.f 4 (of_decide_eq_true rfl)
                have cz_5 : w1.cell? ⟨(w.heap.size + 1 + 1), 5, none⟩ = some (.int .i64 0) := A2_1.c 5 (of_decide_eq_true rfl)
                have gz_5 := A2_1.f 5 (of_decide_eq_true rfl)
                have zz1 := A2_1.lies
                go_wp2_with fail
                refine (to_any 1 (bits .or .i64 f 8) _).mono ?_
                rintro e w2 ⟨rfl, b2⟩
                have A0_2 : Arr w.heap.size [.int .i64 2, .int .i64 c, .int .i64 g, .int .i64 (cntS i true), .int .i64 0, .int .i64 f] w2 := (A0_1.put 3 (of_decide_eq_true rfl) (.int .i64 (cntS i true)) [.int .i64 2, .int .i64 c, .int .i64 g, .int .i64 (cntS i true), .int .i64 0, .int .i64 f] rfl).below b2
                have A1_2 : Arr (w.heap.size + 1) [.bool false, .bool true, .bool slow, .bool true, .bool true, .bool false, .bool false, .int .i64 o] w2 := (A1_1.new w.heap.size 3 (by omega) (.int .i64 (cntS i true))).below b2
                have A2_2 : Arr (w.heap.size + 1 + 1) [.int .i64 0, .int .i64 0, .int .i64 0, .int .i64 0, .int .i64 0, .int .i64 0] w2 := (A2_1.new w.heap.size 3 (by omega) (.int .i64 (cntS i true))).below b2
                have K2 : Below w.heap.size w w2 := bel_then (bel_new K1 w.heap.size 3 (by omega) (.int .i64 (cntS i true))) b2
                clear A0_1 A1_1 A2_1 K1 cp_0 gp_0 cp_1 gp_1 cp_2 gp_2 cp_3 gp_3 cp_4 gp_4 cp_5 gp_5 cs_0 cs_1 cs_2 cs_3 cs_4 cs_5 cs_6 cs_7 cz_0 gz_0 cz_1 gz_1 cz_2 gz_2 cz_3 gz_3 cz_4 gz_4 cz_5 gz_5 zz1
                clear b2
                have cp_0 : w2.cell? ⟨w.heap.size, 0, none⟩ = some (.int .i64 2) := A0_2.c 0 (of_decide_eq_true rfl)
                have gp_0 := A0_2.f 0 (of_decide_eq_true rfl)
                have cp_1 : w2.cell? ⟨w.heap.size, 1, none⟩ = some (.int .i64 c) := A0_2.c 1 (of_decide_eq_true rfl)
                have gp_1 := A0_2.f 1 (of_decide_eq_true rfl)
                have cp_2 : w2.cell? ⟨w.heap.size, 2, none⟩ = some (.int .i64 g) := A0_2.c 2 (of_decide_eq_true rfl)
                have gp_2 := A0_2.f 2 (of_decide_eq_true rfl)
                have cp_3 : w2.cell? ⟨w.heap.size, 3, none⟩ = some (.int .i64 (cntS i true)) := A0_2.c 3 (of_decide_eq_true rfl)
                have gp_3 := A0_2.f 3 (of_decide_eq_true rfl)
                have cp_4 : w2.cell? ⟨w.heap.size, 4, none⟩ = some (.int .i64 0) := A0_2.c 4 (of_decide_eq_true rfl)
                have gp_4 := A0_2.f 4 (of_decide_eq_true rfl)
                have cp_5 : w2.cell? ⟨w.heap.size, 5, none⟩ = some (.int .i64 f) := A0_2.c 5 (of_decide_eq_true rfl)
                have gp_5 := A0_2.f 5 (of_decide_eq_true rfl)
                have cs_0 : w2.cell? ⟨(w.heap.size + 1), 0, none⟩ = some (.bool false) := A1_2.c 0 (of_decide_eq_true rfl)
                have cs_1 : w2.cell? ⟨(w.heap.size + 1), 1, none⟩ = some (.bool true) := A1_2.c 1 (of_decide_eq_true rfl)
                have cs_2 : w2.cell? ⟨(w.heap.size + 1), 2, none⟩ = some (.bool slow) := A1_2.c 2 (of_decide_eq_true rfl)
                have cs_3 : w2.cell? ⟨(w.heap.size + 1), 3, none⟩ = some (.bool true) := A1_2.c 3 (of_decide_eq_true rfl)
                have cs_4 : w2.cell? ⟨(w.heap.size + 1), 4, none⟩ = some (.bool true) := A1_2.c 4 (of_decide_eq_true rfl)
                have cs_5 : w2.cell? ⟨(w.heap.size + 1), 5, none⟩ = some (.bool false) := A1_2.c 5 (of_decide_eq_true rfl)
                have cs_6 : w2.cell? ⟨(w.heap.size + 1), 6, none⟩ = some (.bool false) := A1_2.c 6 (of_decide_eq_true rfl)
                have cs_7 : w2.cell? ⟨(w.heap.size + 1), 7, none⟩ = some (.int .i64 o) := A1_2.c 7 (of_decide_eq_true rfl)
                have cz_0 : w2.cell? ⟨(w.heap.size + 1 + 1), 0, none⟩ = some (.int .i64 0) := A2_2.c 0 (of_decide_eq_true rfl)
                have gz_0 := A2_2.f 0 (of_decide_eq_true rfl)
                have cz_1 : w2.cell? ⟨(w.heap.size + 1 + 1), 1, none⟩ = some (.int .i64 0) := A2_2.c 1 (of_decide_eq_true rfl)
                have gz_1 := A2_2.f 1 (of_decide_eq_true rfl)
                have cz_2 : w2.cell? ⟨(w.heap.size + 1 + 1), 2, none⟩ = some (.int .i64 0) := A2_2.c 2 (of_decide_eq_true rfl)
                have gz_2 := A2_2.f 2 (of_decide_eq_true rfl)
                have cz_3 : w2.cell? ⟨(w.heap.size + 1 + 1), 3, none⟩ = some (.int .i64 0) := A2_2.c 3 (of_decide_eq_true rfl)
                have gz_3 := A2_2.f 3 (of_decide_eq_true rfl)
                have cz_4 : w2.cell? ⟨(w.heap.size + 1 + 1), 4, none⟩ = some (.int .i64 0) := A2_2.c 4 (of_decide_eq_true rfl)
                have gz_4 := A2_2.f 4 (of_decide_eq_true rfl)
                have cz_5 : w2.cell? ⟨(w.heap.size + 1 + 1), 5, none⟩ = some (.int .i64 0) := A2_2.c 5 (of_decide_eq_true rfl)
                have gz_5 := A2_2.f 5 (of_decide_eq_true rfl)
                have zz2 := A2_2.lies
                go_wp2_with (with_reducible refine post_stop ?_)
                have A9 := ((((((A2_2.put 0 (of_decide_eq_true rfl) (.int .i64 1) [.int .i64 1, .int .i64 0, .int .i64 0, .int .i64 0, .int .i64 0, .int .i64 0] rfl).put 1 (of_decide_eq_true rfl) (.int .i64 0) [.int .i64 1, .int .i64 0, .int .i64 0, .int .i64 0, .int .i64 0, .int .i64 0] rfl).put 2 (of_decide_eq_true rfl) (.int .i64 0) [.int .i64 1, .int .i64 0, .int .i64 0, .int .i64 0, .int .i64 0, .int .i64 0] rfl).put 3 (of_decide_eq_true rfl) (.int .i64 0) [.int .i64 1, .int .i64 0, .int .i64 0, .int .i64 0, .int .i64 0, .int .i64 0] rfl).put 4 (of_decide_eq_true rfl) (.int .i64 0) [.int .i64 1, .int .i64 0, .int .i64 0, .int .i64 0, .int .i64 0, .int .i64 0] rfl).put 5 (of_decide_eq_true rfl) (.int .i64 (bits .or .i64 f 8)) [.int .i64 1, .int .i64 0, .int .i64 0, .int .i64 0, .int .i64 0, .int .i64 (bits .or .i64 f 8)] rfl)
                have K9 := (bel_new (bel_new (bel_new (bel_new (bel_new (bel_new K2 (w.heap.size + 1 + 1) 0 (by omega) (.int .i64 1)) (w.heap.size + 1 + 1) 1 (by omega) (.int .i64 0)) (w.heap.size + 1 + 1) 2 (by omega) (.int .i64 0)) (w.heap.size + 1 + 1) 3 (by omega) (.int .i64 0)) (w.heap.size + 1 + 1) 4 (by omega) (.int .i64 0)) (w.heap.size + 1 + 1) 5 (by omega) (.int .i64 (bits .or .i64 f 8)))
                clear cp_0 gp_0 cp_1 gp_1 cp_2 gp_2 cp_3 gp_3 cp_4 gp_4 cp_5 gp_5 cs_0 cs_1 cs_2 cs_3 cs_4 cs_5 cs_6 cs_7 cz_0 gz_0 cz_1 gz_1 cz_2 gz_2 cz_3 gz_3 cz_4 gz_4 cz_5 gz_5
                exact ⟨bodyPost_ret (v := .agg #[.int .i64 1, .int .i64 0, .int .i64 0, .int .i64 0, .int .i64 0, .int .i64 (bits .or .i64 f 8)]) (results_arr Try.results20 A9 rfl (by kernel_rfl) (by kernel_rfl)) rfl ⟨by rw [HS.out], K9⟩⟩
              · have HS : Hid (plV (rfinS ⟨2, c, g, i, l, f⟩ ⟨false, true, slow, true, true, false, false, o⟩) = .agg #[.int .i64 2, .int .i64 c, .int .i64 g, .int .i64 (cntS i true), .int .i64 0, .int .i64 f]) := by show plV _ = _; first | exact congrArg plV ((if_neg t).trans (if_neg u)) | rfl | exact congrArg plV (if_neg ho) | exact congrArg plV (if_neg t) | exact congrArg plV (if_neg u) | exact congrArg plV (if_pos u)
                go_enter Try.func20, Try.ntmps20
                go_wp2_with fail
                refine (count_any i _ hi).mono ?_
                rintro e w1 ⟨rfl, b1⟩
                have A0_1 : Arr w.heap.size [.int .i64 2, .int .i64 c, .int .i64 g, .int .i64 i, .int .i64 0, .int .i64 f] w1 := (((Arr_at _ w.heap.size [.int .i64 2, .int .i64 c, .int .i64 g, .int .i64 i, .int .i64 0, .int .i64 f] 23 (by simp)).alloc _).alloc _).below b1
                have A1_1 : Arr (w.heap.size + 1) [.bool false, .bool true, .bool slow, .bool true, .bool true, .bool false, .bool false, .int .i64 o] w1 := ((Arr_at _ (w.heap.size + 1) [.bool false, .bool true, .bool slow, .bool true, .bool true, .bool false, .bool false, .int .i64 o] 25 (by simp)).alloc _).below b1
                have A2_1 : Arr (w.heap.size + 1 + 1) [.int .i64 0, .int .i64 0, .int .i64 0, .int .i64 0, .int .i64 0, .int .i64 0] w1 := (Arr_at _ (w.heap.size + 1 + 1) [.int .i64 0, .int .i64 0, .int .i64 0, .int .i64 0, .int .i64 0, .int .i64 0] 23 (by simp)).below b1
                have K1 : Below w.heap.size w w1 := bel_then (bel_al (bel_al (bel_al (Below.refl w.heap.size w) _) _) _) b1
                clear b1
                have cp_0 : w1.cell? ⟨w.heap.size, 0, none⟩ = some (.int .i64 2) := A0_1.c 0 (of_decide_eq_true rfl)
                have gp_0 := A0_1.f 0 (of_decide_eq_true rfl)
                have cp_1 : w1.cell? ⟨w.heap.size, 1, none⟩ = some (.int .i64 c) := A0_1.c 1 (of_decide_eq_true rfl)
                have gp_1 := A0_1.f 1 (of_decide_eq_true rfl)
                have cp_2 : w1.cell? ⟨w.heap.size, 2, none⟩ = some (.int .i64 g) := A0_1.c 2 (of_decide_eq_true rfl)
                have gp_2 := A0_1.f 2 (of_decide_eq_true rfl)
                have cp_3 : w1.cell? ⟨w.heap.size, 3, none⟩ = some (.int .i64 i) := A0_1.c 3 (of_decide_eq_true rfl)
                have gp_3 := A0_1.f 3 (of_decide_eq_true rfl)
                have cp_4 : w1.cell? ⟨w.heap.size, 4, none⟩ = some (.int .i64 0) := A0_1.c 4 (of_decide_eq_true rfl)
                have gp_4 := A0_1.f 4 (of_decide_eq_true rfl)
                have cp_5 : w1.cell? ⟨w.heap.size, 5, none⟩ = some (.int .i64 f) := A0_1.c 5 (of_decide_eq_true rfl)
                have gp_5 := A0_1.f 5 (of_decide_eq_true rfl)
                have cs_0 : w1.cell? ⟨(w.heap.size + 1), 0, none⟩ = some (.bool false) := A1_1.c 0 (of_decide_eq_true rfl)
                have cs_1 : w1.cell? ⟨(w.heap.size + 1), 1, none⟩ = some (.bool true) := A1_1.c 1 (of_decide_eq_true rfl)
                have cs_2 : w1.cell? ⟨(w.heap.size + 1), 2, none⟩ = some (.bool slow) := A1_1.c 2 (of_decide_eq_true rfl)
                have cs_3 : w1.cell? ⟨(w.heap.size + 1), 3, none⟩ = some (.bool true) := A1_1.c 3 (of_decide_eq_true rfl)
                have cs_4 : w1.cell? ⟨(w.heap.size + 1), 4, none⟩ = some (.bool true) := A1_1.c 4 (of_decide_eq_true rfl)
                have cs_5 : w1.cell? ⟨(w.heap.size + 1), 5, none⟩ = some (.bool false) := A1_1.c 5 (of_decide_eq_true rfl)
                have cs_6 : w1.cell? ⟨(w.heap.size + 1), 6, none⟩ = some (.bool false) := A1_1.c 6 (of_decide_eq_true rfl)
                have cs_7 : w1.cell? ⟨(w.heap.size + 1), 7, none⟩ = some (.int .i64 o) := A1_1.c 7 (of_decide_eq_true rfl)
                have cz_0 : w1.cell? ⟨(w.heap.size + 1 + 1), 0, none⟩ = some (.int .i64 0) := A2_1.c 0 (of_decide_eq_true rfl)
                have gz_0 := A2_1.f 0 (of_decide_eq_true rfl)
                have cz_1 : w1.cell? ⟨(w.heap.size + 1 + 1), 1, none⟩ = some (.int .i64 0) := A2_1.c 1 (of_decide_eq_true rfl)
                have gz_1 := A2_1.f 1 (of_decide_eq_true rfl)
                have cz_2 : w1.cell? ⟨(w.heap.size + 1 + 1), 2, none⟩ = some (.int .i64 0) := A2_1.c 2 (of_decide_eq_true rfl)
                have gz_2 := A2_1.f 2 (of_decide_eq_true rfl)
                have cz_3 : w1.cell? ⟨(w.heap.size + 1 + 1), 3, none⟩ = some (.int .i64 0) := A2_1.c 3 (of_decide_eq_true rfl)
                have gz_3 := A2_1.f 3 (of_decide_eq_true rfl)
                have cz_4 : w1.cell? ⟨(w.heap.size + 1 + 1), 4, none⟩ = some (.int .i64 0) := A2_1.c 4 (of_decide_eq_true rfl)
                have gz_4 := A2_1.f 4 (of_decide_eq_true rfl)
                have cz_5 : w1.cell? ⟨(w.heap.size + 1 + 1), 5, none⟩ = some (.int .i64 0) := A2_1.c 5 (of_decide_eq_true rfl)
                have gz_5 := A2_1.f 5 (of_decide_eq_true rfl)
                have zz1 := A2_1.lies
                go_wp2_with (with_reducible refine post_stop ?_)
                have A9 := (((((((A2_1.new w.heap.size 3 (by omega) (.int .i64 (cntS i true))).put 0 (of_decide_eq_true rfl) (.int .i64 2) [.int .i64 2, .int .i64 0, .int .i64 0, .int .i64 0, .int .i64 0, .int .i64 0] rfl).put 1 (of_decide_eq_true rfl) (.int .i64 c) [.int .i64 2, .int .i64 c, .int .i64 0, .int .i64 0, .int .i64 0, .int .i64 0] rfl).put 2 (of_decide_eq_true rfl) (.int .i64 g) [.int .i64 2, .int .i64 c, .int .i64 g, .int .i64 0, .int .i64 0, .int .i64 0] rfl).put 3 (of_decide_eq_true rfl) (.int .i64 (cntS i true)) [.int .i64 2, .int .i64 c, .int .i64 g, .int .i64 (cntS i true), .int .i64 0, .int .i64 0] rfl).put 4 (of_decide_eq_true rfl) (.int .i64 0) [.int .i64 2, .int .i64 c, .int .i64 g, .int .i64 (cntS i true), .int .i64 0, .int .i64 0] rfl).put 5 (of_decide_eq_true rfl) (.int .i64 f) [.int .i64 2, .int .i64 c, .int .i64 g, .int .i64 (cntS i true), .int .i64 0, .int .i64 f] rfl)
                have K9 := (bel_new (bel_new (bel_new (bel_new (bel_new (bel_new (bel_new K1 w.heap.size 3 (by omega) (.int .i64 (cntS i true))) (w.heap.size + 1 + 1) 0 (by omega) (.int .i64 2)) (w.heap.size + 1 + 1) 1 (by omega) (.int .i64 c)) (w.heap.size + 1 + 1) 2 (by omega) (.int .i64 g)) (w.heap.size + 1 + 1) 3 (by omega) (.int .i64 (cntS i true))) (w.heap.size + 1 + 1) 4 (by omega) (.int .i64 0)) (w.heap.size + 1 + 1) 5 (by omega) (.int .i64 f))
                clear cp_0 gp_0 cp_1 gp_1 cp_2 gp_2 cp_3 gp_3 cp_4 gp_4 cp_5 gp_5 cs_0 cs_1 cs_2 cs_3 cs_4 cs_5 cs_6 cs_7 cz_0 gz_0 cz_1 gz_1 cz_2 gz_2 cz_3 gz_3 cz_4 gz_4 cz_5 gz_5
                exact ⟨bodyPost_ret (v := .agg #[.int .i64 2, .int .i64 c, .int .i64 g, .int .i64 (cntS i true), .int .i64 0, .int .i64 f]) (results_arr Try.results20 A9 rfl (by kernel_rfl) (by kernel_rfl)) rfl ⟨by rw [HS.out], K9⟩⟩
            · have HS : Hid (plV (rfinS ⟨2, c, g, i, l, f⟩ ⟨false, true, slow, true, true, false, true, o⟩) = .agg #[.int .i64 2, .int .i64 c, .int .i64 g, .int .i64 0, .int .i64 0, .int .i64 f]) := by show plV _ = _; first | exact congrArg plV ((if_neg t).trans (if_neg (show ¬ (5 : Int) ≤ 0 by decide))) | rfl | exact congrArg plV (if_neg ho) | exact congrArg plV (if_neg t) | exact congrArg plV (if_neg u) | exact congrArg plV (if_pos u)
              go_enter Try.func20, Try.ntmps20
              go_wp2_with (with_reducible refine post_stop ?_)
              exact ⟨bodyPost_ret (v := .agg #[.int .i64 2, .int .i64 c, .int .i64 g, .int .i64 0, .int .i64 0, .int .i64 f]) (by simp [results, Try.results20, go_sem]) rfl ⟨by rw [HS.out], (bel_al (bel_al (bel_al (Below.refl w.heap.size w) _) _) _)⟩⟩
    · have HS : Hid (plV (rfinS ⟨2, c, g, i, l, f⟩ ⟨false, gyro, slow, pair, lit, true, pass, o⟩) = .agg #[.int .i64 1, .int .i64 0, .int .i64 0, .int .i64 0, .int .i64 0, .int .i64 (bits .or .i64 f 4)]) := by show plV _ = _; first | exact rfl | rfl | exact congrArg plV (if_neg ho) | exact congrArg plV (if_neg t) | exact congrArg plV (if_neg u) | exact congrArg plV (if_pos u)
      go_enter Try.func20, Try.ntmps20
      go_wp2_with fail
      refine (to_any 1 (bits .or .i64 f 4) _).mono ?_
      rintro e w1 ⟨rfl, b1⟩
      have A0_1 : Arr w.heap.size [.int .i64 2, .int .i64 c, .int .i64 g, .int .i64 i, .int .i64 l, .int .i64 f] w1 := (((Arr_at _ w.heap.size [.int .i64 2, .int .i64 c, .int .i64 g, .int .i64 i, .int .i64 l, .int .i64 f] 23 (by simp)).alloc _).alloc _).below b1
      have A1_1 : Arr (w.heap.size + 1) [.bool false, .bool gyro, .bool slow, .bool pair, .bool lit, .bool true, .bool pass, .int .i64 o] w1 := ((Arr_at _ (w.heap.size + 1) [.bool false, .bool gyro, .bool slow, .bool pair, .bool lit, .bool true, .bool pass, .int .i64 o] 25 (by simp)).alloc _).below b1
      have A2_1 : Arr (w.heap.size + 1 + 1) [.int .i64 0, .int .i64 0, .int .i64 0, .int .i64 0, .int .i64 0, .int .i64 0] w1 := (Arr_at _ (w.heap.size + 1 + 1) [.int .i64 0, .int .i64 0, .int .i64 0, .int .i64 0, .int .i64 0, .int .i64 0] 23 (by simp)).below b1
      have K1 : Below w.heap.size w w1 := bel_then (bel_al (bel_al (bel_al (Below.refl w.heap.size w) _) _) _) b1
      clear b1
      have cp_0 : w1.cell? ⟨w.heap.size, 0, none⟩ = some (.int .i64 2) := A0_1.c 0 (of_decide_eq_true rfl)
      have gp_0 := A0_1.f 0 (of_decide_eq_true rfl)
      have cp_1 : w1.cell? ⟨w.heap.size, 1, none⟩ = some (.int .i64 c) := A0_1.c 1 (of_decide_eq_true rfl)
      have gp_1 := A0_1.f 1 (of_decide_eq_true rfl)
      have cp_2 : w1.cell? ⟨w.heap.size, 2, none⟩ = some (.int .i64 g) := A0_1.c 2 (of_decide_eq_true rfl)
      have gp_2 := A0_1.f 2 (of_decide_eq_true rfl)
      have cp_3 : w1.cell? ⟨w.heap.size, 3, none⟩ = some (.int .i64 i) := A0_1.c 3 (of_decide_eq_true rfl)
      have gp_3 := A0_1.f 3 (of_decide_eq_true rfl)
      have cp_4 : w1.cell? ⟨w.heap.size, 4, none⟩ = some (.int .i64 l) := A0_1.c 4 (of_decide_eq_true rfl)
      have gp_4 := A0_1.f 4 (of_decide_eq_true rfl)
      have cp_5 : w1.cell? ⟨w.heap.size, 5, none⟩ = some (.int .i64 f) := A0_1.c 5 (of_decide_eq_true rfl)
      have gp_5 := A0_1.f 5 (of_decide_eq_true rfl)
      have cs_0 : w1.cell? ⟨(w.heap.size + 1), 0, none⟩ = some (.bool false) := A1_1.c 0 (of_decide_eq_true rfl)
      have cs_1 : w1.cell? ⟨(w.heap.size + 1), 1, none⟩ = some (.bool gyro) := A1_1.c 1 (of_decide_eq_true rfl)
      have cs_2 : w1.cell? ⟨(w.heap.size + 1), 2, none⟩ = some (.bool slow) := A1_1.c 2 (of_decide_eq_true rfl)
      have cs_3 : w1.cell? ⟨(w.heap.size + 1), 3, none⟩ = some (.bool pair) := A1_1.c 3 (of_decide_eq_true rfl)
      have cs_4 : w1.cell? ⟨(w.heap.size + 1), 4, none⟩ = some (.bool lit) := A1_1.c 4 (of_decide_eq_true rfl)
      have cs_5 : w1.cell? ⟨(w.heap.size + 1), 5, none⟩ = some (.bool true) := A1_1.c 5 (of_decide_eq_true rfl)
      have cs_6 : w1.cell? ⟨(w.heap.size + 1), 6, none⟩ = some (.bool pass) := A1_1.c 6 (of_decide_eq_true rfl)
      have cs_7 : w1.cell? ⟨(w.heap.size + 1), 7, none⟩ = some (.int .i64 o) := A1_1.c 7 (of_decide_eq_true rfl)
      have cz_0 : w1.cell? ⟨(w.heap.size + 1 + 1), 0, none⟩ = some (.int .i64 0) := A2_1.c 0 (of_decide_eq_true rfl)
      have gz_0 := A2_1.f 0 (of_decide_eq_true rfl)
      have cz_1 : w1.cell? ⟨(w.heap.size + 1 + 1), 1, none⟩ = some (.int .i64 0) := A2_1.c 1 (of_decide_eq_true rfl)
      have gz_1 := A2_1.f 1 (of_decide_eq_true rfl)
      have cz_2 : w1.cell? ⟨(w.heap.size + 1 + 1), 2, none⟩ = some (.int .i64 0) := A2_1.c 2 (of_decide_eq_true rfl)
      have gz_2 := A2_1.f 2 (of_decide_eq_true rfl)
      have cz_3 : w1.cell? ⟨(w.heap.size + 1 + 1), 3, none⟩ = some (.int .i64 0) := A2_1.c 3 (of_decide_eq_true rfl)
      have gz_3 := A2_1.f 3 (of_decide_eq_true rfl)
      have cz_4 : w1.cell? ⟨(w.heap.size + 1 + 1), 4, none⟩ = some (.int .i64 0) := A2_1.c 4 (of_decide_eq_true rfl)
      have gz_4 := A2_1.f 4 (of_decide_eq_true rfl)
      have cz_5 : w1.cell? ⟨(w.heap.size + 1 + 1), 5, none⟩ = some (.int .i64 0) := A2_1.c 5 (of_decide_eq_true rfl)
      have gz_5 := A2_1.f 5 (of_decide_eq_true rfl)
      have zz1 := A2_1.lies
      go_wp2_with (with_reducible refine post_stop ?_)
      have A9 := ((((((A2_1.put 0 (of_decide_eq_true rfl) (.int .i64 1) [.int .i64 1, .int .i64 0, .int .i64 0, .int .i64 0, .int .i64 0, .int .i64 0] rfl).put 1 (of_decide_eq_true rfl) (.int .i64 0) [.int .i64 1, .int .i64 0, .int .i64 0, .int .i64 0, .int .i64 0, .int .i64 0] rfl).put 2 (of_decide_eq_true rfl) (.int .i64 0) [.int .i64 1, .int .i64 0, .int .i64 0, .int .i64 0, .int .i64 0, .int .i64 0] rfl).put 3 (of_decide_eq_true rfl) (.int .i64 0) [.int .i64 1, .int .i64 0, .int .i64 0, .int .i64 0, .int .i64 0, .int .i64 0] rfl).put 4 (of_decide_eq_true rfl) (.int .i64 0) [.int .i64 1, .int .i64 0, .int .i64 0, .int .i64 0, .int .i64 0, .int .i64 0] rfl).put 5 (of_decide_eq_true rfl) (.int .i64 (bits .or .i64 f 4)) [.int .i64 1, .int .i64 0, .int .i64 0, .int .i64 0, .int .i64 0, .int .i64 (bits .or .i64 f 4)] rfl)
      have K9 := (bel_new (bel_new (bel_new (bel_new (bel_new (bel_new K1 (w.heap.size + 1 + 1) 0 (by omega) (.int .i64 1)) (w.heap.size + 1 + 1) 1 (by omega) (.int .i64 0)) (w.heap.size + 1 + 1) 2 (by omega) (.int .i64 0)) (w.heap.size + 1 + 1) 3 (by omega) (.int .i64 0)) (w.heap.size + 1 + 1) 4 (by omega) (.int .i64 0)) (w.heap.size + 1 + 1) 5 (by omega) (.int .i64 (bits .or .i64 f 4)))
      clear cp_0 gp_0 cp_1 gp_1 cp_2 gp_2 cp_3 gp_3 cp_4 gp_4 cp_5 gp_5 cs_0 cs_1 cs_2 cs_3 cs_4 cs_5 cs_6 cs_7 cz_0 gz_0 cz_1 gz_1 cz_2 gz_2 cz_3 gz_3 cz_4 gz_4 cz_5 gz_5
      exact ⟨bodyPost_ret (v := .agg #[.int .i64 1, .int .i64 0, .int .i64 0, .int .i64 0, .int .i64 0, .int .i64 (bits .or .i64 f 4)]) (results_arr Try.results20 A9 rfl (by kernel_rfl) (by kernel_rfl)) rfl ⟨by rw [HS.out], K9⟩⟩
  · have HS : Hid (plV (rfinS ⟨2, c, g, i, l, f⟩ ⟨true, gyro, slow, pair, lit, bad, pass, o⟩) = .agg #[.int .i64 1, .int .i64 0, .int .i64 0, .int .i64 0, .int .i64 0, .int .i64 (bits .or .i64 f 1)]) := by show plV _ = _; first | exact rfl | rfl | exact congrArg plV (if_neg ho) | exact congrArg plV (if_neg t) | exact congrArg plV (if_neg u) | exact congrArg plV (if_pos u)
    go_enter Try.func20, Try.ntmps20
    go_wp2_with fail
    refine (to_any 1 (bits .or .i64 f 1) _).mono ?_
    rintro e w1 ⟨rfl, b1⟩
    have A0_1 : Arr w.heap.size [.int .i64 2, .int .i64 c, .int .i64 g, .int .i64 i, .int .i64 l, .int .i64 f] w1 := (((Arr_at _ w.heap.size [.int .i64 2, .int .i64 c, .int .i64 g, .int .i64 i, .int .i64 l, .int .i64 f] 23 (by simp)).alloc _).alloc _).below b1
    have A1_1 : Arr (w.heap.size + 1) [.bool true, .bool gyro, .bool slow, .bool pair, .bool lit, .bool bad, .bool pass, .int .i64 o] w1 := ((Arr_at _ (w.heap.size + 1) [.bool true, .bool gyro, .bool slow, .bool pair, .bool lit, .bool bad, .bool pass, .int .i64 o] 25 (by simp)).alloc _).below b1
    have A2_1 : Arr (w.heap.size + 1 + 1) [.int .i64 0, .int .i64 0, .int .i64 0, .int .i64 0, .int .i64 0, .int .i64 0] w1 := (Arr_at _ (w.heap.size + 1 + 1) [.int .i64 0, .int .i64 0, .int .i64 0, .int .i64 0, .int .i64 0, .int .i64 0] 23 (by simp)).below b1
    have K1 : Below w.heap.size w w1 := bel_then (bel_al (bel_al (bel_al (Below.refl w.heap.size w) _) _) _) b1
    clear b1
    have cp_0 : w1.cell? ⟨w.heap.size, 0, none⟩ = some (.int .i64 2) := A0_1.c 0 (of_decide_eq_true rfl)
    have gp_0 := A0_1.f 0 (of_decide_eq_true rfl)
    have cp_1 : w1.cell? ⟨w.heap.size, 1, none⟩ = some (.int .i64 c) := A0_1.c 1 (of_decide_eq_true rfl)
    have gp_1 := A0_1.f 1 (of_decide_eq_true rfl)
    have cp_2 : w1.cell? ⟨w.heap.size, 2, none⟩ = some (.int .i64 g) := A0_1.c 2 (of_decide_eq_true rfl)
    have gp_2 := A0_1.f 2 (of_decide_eq_true rfl)
    have cp_3 : w1.cell? ⟨w.heap.size, 3, none⟩ = some (.int .i64 i) := A0_1.c 3 (of_decide_eq_true rfl)
    have gp_3 := A0_1.f 3 (of_decide_eq_true rfl)
    have cp_4 : w1.cell? ⟨w.heap.size, 4, none⟩ = some (.int .i64 l) := A0_1.c 4 (of_decide_eq_true rfl)
    have gp_4 := A0_1.f 4 (of_decide_eq_true rfl)
    have cp_5 : w1.cell? ⟨w.heap.size, 5, none⟩ = some (.int .i64 f) := A0_1.c 5 (of_decide_eq_true rfl)
    have gp_5 := A0_1.f 5 (of_decide_eq_true rfl)
    have cs_0 : w1.cell? ⟨(w.heap.size + 1), 0, none⟩ = some (.bool true) := A1_1.c 0 (of_decide_eq_true rfl)
    have cs_1 : w1.cell? ⟨(w.heap.size + 1), 1, none⟩ = some (.bool gyro) := A1_1.c 1 (of_decide_eq_true rfl)
    have cs_2 : w1.cell? ⟨(w.heap.size + 1), 2, none⟩ = some (.bool slow) := A1_1.c 2 (of_decide_eq_true rfl)
    have cs_3 : w1.cell? ⟨(w.heap.size + 1), 3, none⟩ = some (.bool pair) := A1_1.c 3 (of_decide_eq_true rfl)
    have cs_4 : w1.cell? ⟨(w.heap.size + 1), 4, none⟩ = some (.bool lit) := A1_1.c 4 (of_decide_eq_true rfl)
    have cs_5 : w1.cell? ⟨(w.heap.size + 1), 5, none⟩ = some (.bool bad) := A1_1.c 5 (of_decide_eq_true rfl)
    have cs_6 : w1.cell? ⟨(w.heap.size + 1), 6, none⟩ = some (.bool pass) := A1_1.c 6 (of_decide_eq_true rfl)
    have cs_7 : w1.cell? ⟨(w.heap.size + 1), 7, none⟩ = some (.int .i64 o) := A1_1.c 7 (of_decide_eq_true rfl)
    have cz_0 : w1.cell? ⟨(w.heap.size + 1 + 1), 0, none⟩ = some (.int .i64 0) := A2_1.c 0 (of_decide_eq_true rfl)
    have gz_0 := A2_1.f 0 (of_decide_eq_true rfl)
    have cz_1 : w1.cell? ⟨(w.heap.size + 1 + 1), 1, none⟩ = some (.int .i64 0) := A2_1.c 1 (of_decide_eq_true rfl)
    have gz_1 := A2_1.f 1 (of_decide_eq_true rfl)
    have cz_2 : w1.cell? ⟨(w.heap.size + 1 + 1), 2, none⟩ = some (.int .i64 0) := A2_1.c 2 (of_decide_eq_true rfl)
    have gz_2 := A2_1.f 2 (of_decide_eq_true rfl)
    have cz_3 : w1.cell? ⟨(w.heap.size + 1 + 1), 3, none⟩ = some (.int .i64 0) := A2_1.c 3 (of_decide_eq_true rfl)
    have gz_3 := A2_1.f 3 (of_decide_eq_true rfl)
    have cz_4 : w1.cell? ⟨(w.heap.size + 1 + 1), 4, none⟩ = some (.int .i64 0) := A2_1.c 4 (of_decide_eq_true rfl)
    have gz_4 := A2_1.f 4 (of_decide_eq_true rfl)
    have cz_5 : w1.cell? ⟨(w.heap.size + 1 + 1), 5, none⟩ = some (.int .i64 0) := A2_1.c 5 (of_decide_eq_true rfl)
    have gz_5 := A2_1.f 5 (of_decide_eq_true rfl)
    have zz1 := A2_1.lies
    go_wp2_with (with_reducible refine post_stop ?_)
    have A9 := ((((((A2_1.put 0 (of_decide_eq_true rfl) (.int .i64 1) [.int .i64 1, .int .i64 0, .int .i64 0, .int .i64 0, .int .i64 0, .int .i64 0] rfl).put 1 (of_decide_eq_true rfl) (.int .i64 0) [.int .i64 1, .int .i64 0, .int .i64 0, .int .i64 0, .int .i64 0, .int .i64 0] rfl).put 2 (of_decide_eq_true rfl) (.int .i64 0) [.int .i64 1, .int .i64 0, .int .i64 0, .int .i64 0, .int .i64 0, .int .i64 0] rfl).put 3 (of_decide_eq_true rfl) (.int .i64 0) [.int .i64 1, .int .i64 0, .int .i64 0, .int .i64 0, .int .i64 0, .int .i64 0] rfl).put 4 (of_decide_eq_true rfl) (.int .i64 0) [.int .i64 1, .int .i64 0, .int .i64 0, .int .i64 0, .int .i64 0, .int .i64 0] rfl).put 5 (of_decide_eq_true rfl) (.int .i64 (bits .or .i64 f 1)) [.int .i64 1, .int .i64 0, .int .i64 0, .int .i64 0, .int .i64 0, .int .i64 (bits .or .i64 f 1)] rfl)
    have K9 := (bel_new (bel_new (bel_new (bel_new (bel_new (bel_new K1 (w.heap.size + 1 + 1) 0 (by omega) (.int .i64 1)) (w.heap.size + 1 + 1) 1 (by omega) (.int .i64 0)) (w.heap.size + 1 + 1) 2 (by omega) (.int .i64 0)) (w.heap.size + 1 + 1) 3 (by omega) (.int .i64 0)) (w.heap.size + 1 + 1) 4 (by omega) (.int .i64 0)) (w.heap.size + 1 + 1) 5 (by omega) (.int .i64 (bits .or .i64 f 1)))
    clear cp_0 gp_0 cp_1 gp_1 cp_2 gp_2 cp_3 gp_3 cp_4 gp_4 cp_5 gp_5 cs_0 cs_1 cs_2 cs_3 cs_4 cs_5 cs_6 cs_7 cz_0 gz_0 cz_1 gz_1 cz_2 gz_2 cz_3 gz_3 cz_4 gz_4 cz_5 gz_5
    exact ⟨bodyPost_ret (v := .agg #[.int .i64 1, .int .i64 0, .int .i64 0, .int .i64 0, .int .i64 0, .int .i64 (bits .or .i64 f 1)]) (results_arr Try.results20 A9 rfl (by kernel_rfl) (by kernel_rfl)) rfl ⟨by rw [HS.out], K9⟩⟩
set_option maxRecDepth 100000 in
set_option maxHeartbeats 4000000 in
theorem rnext_any (m c g i l f : Int) (gap gyro slow pair lit bad pass : Bool) (o : Int) (w : World) (hc : I64 c) (hg : I64 g) (hi : I64 i) (hl : I64 l) : Calls Try.prog 10 #[.agg #[.int .i64 m, .int .i64 c, .int .i64 g, .int .i64 i, .int .i64 l, .int .i64 f], .agg #[.bool gap, .bool gyro, .bool slow, .bool pair, .bool lit, .bool bad, .bool pass, .int .i64 o]] w fun e w' => e = .returned (plV (nextS ⟨m, c, g, i, l, f⟩ ⟨gap, gyro, slow, pair, lit, bad, pass, o⟩)) ∧ Below w.heap.size w w' := by
  by_cases ho : o = 1
  · subst ho
    have HS : Hid (plV (nextS ⟨m, c, g, i, l, f⟩ ⟨gap, gyro, slow, pair, lit, bad, pass, 1⟩) = .agg #[.int .i64 3, .int .i64 0, .int .i64 0, .int .i64 0, .int .i64 0, .int .i64 f]) := by show plV _ = _; first | exact rfl | rfl | exact congrArg plV (if_neg ho) | exact congrArg plV (if_neg t) | exact congrArg plV (if_neg u) | exact congrArg plV (if_pos u)
    go_enter Try.func10, Try.ntmps10
    go_wp2_with fail
    refine (to_any 3 (f) _).mono ?_
    rintro e w1 ⟨rfl, b1⟩
    have A0_1 : Arr w.heap.size [.int .i64 m, .int .i64 c, .int .i64 g, .int .i64 i, .int .i64 l, .int .i64 f] w1 := (((Arr_at _ w.heap.size [.int .i64 m, .int .i64 c, .int .i64 g, .int .i64 i, .int .i64 l, .int .i64 f] 23 (by simp)).alloc _).alloc _).below b1
    have A1_1 : Arr (w.heap.size + 1) [.bool gap, .bool gyro, .bool slow, .bool pair, .bool lit, .bool bad, .bool pass, .int .i64 1] w1 := ((Arr_at _ (w.heap.size + 1) [.bool gap, .bool gyro, .bool slow, .bool pair, .bool lit, .bool bad, .bool pass, .int .i64 1] 25 (by simp)).alloc _).below b1
    have A2_1 : Arr (w.heap.size + 1 + 1) [.int .i64 0, .int .i64 0, .int .i64 0, .int .i64 0, .int .i64 0, .int .i64 0] w1 := (Arr_at _ (w.heap.size + 1 + 1) [.int .i64 0, .int .i64 0, .int .i64 0, .int .i64 0, .int .i64 0, .int .i64 0] 23 (by simp)).below b1
    have K1 : Below w.heap.size w w1 := bel_then (bel_al (bel_al (bel_al (Below.refl w.heap.size w) _) _) _) b1
    clear b1
    have cp_0 : w1.cell? ⟨w.heap.size, 0, none⟩ = some (.int .i64 m) := A0_1.c 0 (of_decide_eq_true rfl)
    have gp_0 := A0_1.f 0 (of_decide_eq_true rfl)
    have cp_1 : w1.cell? ⟨w.heap.size, 1, none⟩ = some (.int .i64 c) := A0_1.c 1 (of_decide_eq_true rfl)
    have gp_1 := A0_1.f 1 (of_decide_eq_true rfl)
    have cp_2 : w1.cell? ⟨w.heap.size, 2, none⟩ = some (.int .i64 g) := A0_1.c 2 (of_decide_eq_true rfl)
    have gp_2 := A0_1.f 2 (of_decide_eq_true rfl)
    have cp_3 : w1.cell? ⟨w.heap.size, 3, none⟩ = some (.int .i64 i) := A0_1.c 3 (of_decide_eq_true rfl)
    have gp_3 := A0_1.f 3 (of_decide_eq_true rfl)
    have cp_4 : w1.cell? ⟨w.heap.size, 4, none⟩ = some (.int .i64 l) := A0_1.c 4 (of_decide_eq_true rfl)
    have gp_4 := A0_1.f 4 (of_decide_eq_true rfl)
    have cp_5 : w1.cell? ⟨w.heap.size, 5, none⟩ = some (.int .i64 f) := A0_1.c 5 (of_decide_eq_true rfl)
    have gp_5 := A0_1.f 5 (of_decide_eq_true rfl)
    have cs_0 : w1.cell? ⟨(w.heap.size + 1), 0, none⟩ = some (.bool gap) := A1_1.c 0 (of_decide_eq_true rfl)
    have cs_1 : w1.cell? ⟨(w.heap.size + 1), 1, none⟩ = some (.bool gyro) := A1_1.c 1 (of_decide_eq_true rfl)
    have cs_2 : w1.cell? ⟨(w.heap.size + 1), 2, none⟩ = some (.bool slow) := A1_1.c 2 (of_decide_eq_true rfl)
    have cs_3 : w1.cell? ⟨(w.heap.size + 1), 3, none⟩ = some (.bool pair) := A1_1.c 3 (of_decide_eq_true rfl)
    have cs_4 : w1.cell? ⟨(w.heap.size + 1), 4, none⟩ = some (.bool lit) := A1_1.c 4 (of_decide_eq_true rfl)
    have cs_5 : w1.cell? ⟨(w.heap.size + 1), 5, none⟩ = some (.bool bad) := A1_1.c 5 (of_decide_eq_true rfl)
    have cs_6 : w1.cell? ⟨(w.heap.size + 1), 6, none⟩ = some (.bool pass) := A1_1.c 6 (of_decide_eq_true rfl)
    have cs_7 : w1.cell? ⟨(w.heap.size + 1), 7, none⟩ = some (.int .i64 1) := A1_1.c 7 (of_decide_eq_true rfl)
    have cz_0 : w1.cell? ⟨(w.heap.size + 1 + 1), 0, none⟩ = some (.int .i64 0) := A2_1.c 0 (of_decide_eq_true rfl)
    have gz_0 := A2_1.f 0 (of_decide_eq_true rfl)
    have cz_1 : w1.cell? ⟨(w.heap.size + 1 + 1), 1, none⟩ = some (.int .i64 0) := A2_1.c 1 (of_decide_eq_true rfl)
    have gz_1 := A2_1.f 1 (of_decide_eq_true rfl)
    have cz_2 : w1.cell? ⟨(w.heap.size + 1 + 1), 2, none⟩ = some (.int .i64 0) := A2_1.c 2 (of_decide_eq_true rfl)
    have gz_2 := A2_1.f 2 (of_decide_eq_true rfl)
    have cz_3 : w1.cell? ⟨(w.heap.size + 1 + 1), 3, none⟩ = some (.int .i64 0) := A2_1.c 3 (of_decide_eq_true rfl)
    have gz_3 := A2_1.f 3 (of_decide_eq_true rfl)
    have cz_4 : w1.cell? ⟨(w.heap.size + 1 + 1), 4, none⟩ = some (.int .i64 0) := A2_1.c 4 (of_decide_eq_true rfl)
    have gz_4 := A2_1.f 4 (of_decide_eq_true rfl)
    have cz_5 : w1.cell? ⟨(w.heap.size + 1 + 1), 5, none⟩ = some (.int .i64 0) := A2_1.c 5 (of_decide_eq_true rfl)
    have gz_5 := A2_1.f 5 (of_decide_eq_true rfl)
    have zz1 := A2_1.lies
    go_wp2_with (with_reducible refine post_stop ?_)
    have A9 := ((((((A2_1.put 0 (of_decide_eq_true rfl) (.int .i64 3) [.int .i64 3, .int .i64 0, .int .i64 0, .int .i64 0, .int .i64 0, .int .i64 0] rfl).put 1 (of_decide_eq_true rfl) (.int .i64 0) [.int .i64 3, .int .i64 0, .int .i64 0, .int .i64 0, .int .i64 0, .int .i64 0] rfl).put 2 (of_decide_eq_true rfl) (.int .i64 0) [.int .i64 3, .int .i64 0, .int .i64 0, .int .i64 0, .int .i64 0, .int .i64 0] rfl).put 3 (of_decide_eq_true rfl) (.int .i64 0) [.int .i64 3, .int .i64 0, .int .i64 0, .int .i64 0, .int .i64 0, .int .i64 0] rfl).put 4 (of_decide_eq_true rfl) (.int .i64 0) [.int .i64 3, .int .i64 0, .int .i64 0, .int .i64 0, .int .i64 0, .int .i64 0] rfl).put 5 (of_decide_eq_true rfl) (.int .i64 f) [.int .i64 3, .int .i64 0, .int .i64 0, .int .i64 0, .int .i64 0, .int .i64 f] rfl)
    have K9 := (bel_new (bel_new (bel_new (bel_new (bel_new (bel_new K1 (w.heap.size + 1 + 1) 0 (by omega) (.int .i64 3)) (w.heap.size + 1 + 1) 1 (by omega) (.int .i64 0)) (w.heap.size + 1 + 1) 2 (by omega) (.int .i64 0)) (w.heap.size + 1 + 1) 3 (by omega) (.int .i64 0)) (w.heap.size + 1 + 1) 4 (by omega) (.int .i64 0)) (w.heap.size + 1 + 1) 5 (by omega) (.int .i64 f))
    clear cp_0 gp_0 cp_1 gp_1 cp_2 gp_2 cp_3 gp_3 cp_4 gp_4 cp_5 gp_5 cs_0 cs_1 cs_2 cs_3 cs_4 cs_5 cs_6 cs_7 cz_0 gz_0 cz_1 gz_1 cz_2 gz_2 cz_3 gz_3 cz_4 gz_4 cz_5 gz_5
    exact ⟨bodyPost_ret (v := .agg #[.int .i64 3, .int .i64 0, .int .i64 0, .int .i64 0, .int .i64 0, .int .i64 f]) (results_arr Try.results10 A9 rfl (by kernel_rfl) (by kernel_rfl)) rfl ⟨by rw [HS.out], K9⟩⟩
  · by_cases h3 : m = 3
    · subst h3
      by_cases h2 : o = 2
      · subst h2
        have HS : Hid (plV (nextS ⟨3, c, g, i, l, f⟩ ⟨gap, gyro, slow, pair, lit, bad, pass, 2⟩) = .agg #[.int .i64 0, .int .i64 0, .int .i64 0, .int .i64 0, .int .i64 0, .int .i64 0]) := by show plV _ = _; first | exact rfl | rfl | exact congrArg plV (if_neg ho) | exact congrArg plV (if_neg t) | exact congrArg plV (if_neg u) | exact congrArg plV (if_pos u)
        go_enter Try.func10, Try.ntmps10
        go_wp2_with fail
        refine (to_any 0 (0) _).mono ?_
        rintro e w1 ⟨rfl, b1⟩
        have A0_1 : Arr w.heap.size [.int .i64 3, .int .i64 c, .int .i64 g, .int .i64 i, .int .i64 l, .int .i64 f] w1 := (((Arr_at _ w.heap.size [.int .i64 3, .int .i64 c, .int .i64 g, .int .i64 i, .int .i64 l, .int .i64 f] 23 (by simp)).alloc _).alloc _).below b1
        have A1_1 : Arr (w.heap.size + 1) [.bool gap, .bool gyro, .bool slow, .bool pair, .bool lit, .bool bad, .bool pass, .int .i64 2] w1 := ((Arr_at _ (w.heap.size + 1) [.bool gap, .bool gyro, .bool slow, .bool pair, .bool lit, .bool bad, .bool pass, .int .i64 2] 25 (by simp)).alloc _).below b1
        have A2_1 : Arr (w.heap.size + 1 + 1) [.int .i64 0, .int .i64 0, .int .i64 0, .int .i64 0, .int .i64 0, .int .i64 0] w1 := (Arr_at _ (w.heap.size + 1 + 1) [.int .i64 0, .int .i64 0, .int .i64 0, .int .i64 0, .int .i64 0, .int .i64 0] 23 (by simp)).below b1
        have K1 : Below w.heap.size w w1 := bel_then (bel_al (bel_al (bel_al (Below.refl w.heap.size w) _) _) _) b1
        clear b1
        have cp_0 : w1.cell? ⟨w.heap.size, 0, none⟩ = some (.int .i64 3) := A0_1.c 0 (of_decide_eq_true rfl)
        have gp_0 := A0_1.f 0 (of_decide_eq_true rfl)
        have cp_1 : w1.cell? ⟨w.heap.size, 1, none⟩ = some (.int .i64 c) := A0_1.c 1 (of_decide_eq_true rfl)
        have gp_1 := A0_1.f 1 (of_decide_eq_true rfl)
        have cp_2 : w1.cell? ⟨w.heap.size, 2, none⟩ = some (.int .i64 g) := A0_1.c 2 (of_decide_eq_true rfl)
        have gp_2 := A0_1.f 2 (of_decide_eq_true rfl)
        have cp_3 : w1.cell? ⟨w.heap.size, 3, none⟩ = some (.int .i64 i) := A0_1.c 3 (of_decide_eq_true rfl)
        have gp_3 := A0_1.f 3 (of_decide_eq_true rfl)
        have cp_4 : w1.cell? ⟨w.heap.size, 4, none⟩ = some (.int .i64 l) := A0_1.c 4 (of_decide_eq_true rfl)
        have gp_4 := A0_1.f 4 (of_decide_eq_true rfl)
        have cp_5 : w1.cell? ⟨w.heap.size, 5, none⟩ = some (.int .i64 f) := A0_1.c 5 (of_decide_eq_true rfl)
        have gp_5 := A0_1.f 5 (of_decide_eq_true rfl)
        have cs_0 : w1.cell? ⟨(w.heap.size + 1), 0, none⟩ = some (.bool gap) := A1_1.c 0 (of_decide_eq_true rfl)
        have cs_1 : w1.cell? ⟨(w.heap.size + 1), 1, none⟩ = some (.bool gyro) := A1_1.c 1 (of_decide_eq_true rfl)
        have cs_2 : w1.cell? ⟨(w.heap.size + 1), 2, none⟩ = some (.bool slow) := A1_1.c 2 (of_decide_eq_true rfl)
        have cs_3 : w1.cell? ⟨(w.heap.size + 1), 3, none⟩ = some (.bool pair) := A1_1.c 3 (of_decide_eq_true rfl)
        have cs_4 : w1.cell? ⟨(w.heap.size + 1), 4, none⟩ = some (.bool lit) := A1_1.c 4 (of_decide_eq_true rfl)
        have cs_5 : w1.cell? ⟨(w.heap.size + 1), 5, none⟩ = some (.bool bad) := A1_1.c 5 (of_decide_eq_true rfl)
        have cs_6 : w1.cell? ⟨(w.heap.size + 1), 6, none⟩ = some (.bool pass) := A1_1.c 6 (of_decide_eq_true rfl)
        have cs_7 : w1.cell? ⟨(w.heap.size + 1), 7, none⟩ = some (.int .i64 2) := A1_1.c 7 (of_decide_eq_true rfl)
        have cz_0 : w1.cell? ⟨(w.heap.size + 1 + 1), 0, none⟩ = some (.int .i64 0) := A2_1.c 0 (of_decide_eq_true rfl)
        have gz_0 := A2_1.f 0 (of_decide_eq_true rfl)
        have cz_1 : w1.cell? ⟨(w.heap.size + 1 + 1), 1, none⟩ = some (.int .i64 0) := A2_1.c 1 (of_decide_eq_true rfl)
        have gz_1 := A2_1.f 1 (of_decide_eq_true rfl)
        have cz_2 : w1.cell? ⟨(w.heap.size + 1 + 1), 2, none⟩ = some (.int .i64 0) := A2_1.c 2 (of_decide_eq_true rfl)
        have gz_2 := A2_1.f 2 (of_decide_eq_true rfl)
        have cz_3 : w1.cell? ⟨(w.heap.size + 1 + 1), 3, none⟩ = some (.int .i64 0) := A2_1.c 3 (of_decide_eq_true rfl)
        have gz_3 := A2_1.f 3 (of_decide_eq_true rfl)
        have cz_4 : w1.cell? ⟨(w.heap.size + 1 + 1), 4, none⟩ = some (.int .i64 0) := A2_1.c 4 (of_decide_eq_true rfl)
        have gz_4 := A2_1.f 4 (of_decide_eq_true rfl)
        have cz_5 : w1.cell? ⟨(w.heap.size + 1 + 1), 5, none⟩ = some (.int .i64 0) := A2_1.c 5 (of_decide_eq_true rfl)
        have gz_5 := A2_1.f 5 (of_decide_eq_true rfl)
        have zz1 := A2_1.lies
        go_wp2_with (with_reducible refine post_stop ?_)
        have A9 := ((((((A2_1.put 0 (of_decide_eq_true rfl) (.int .i64 0) [.int .i64 0, .int .i64 0, .int .i64 0, .int .i64 0, .int .i64 0, .int .i64 0] rfl).put 1 (of_decide_eq_true rfl) (.int .i64 0) [.int .i64 0, .int .i64 0, .int .i64 0, .int .i64 0, .int .i64 0, .int .i64 0] rfl).put 2 (of_decide_eq_true rfl) (.int .i64 0) [.int .i64 0, .int .i64 0, .int .i64 0, .int .i64 0, .int .i64 0, .int .i64 0] rfl).put 3 (of_decide_eq_true rfl) (.int .i64 0) [.int .i64 0, .int .i64 0, .int .i64 0, .int .i64 0, .int .i64 0, .int .i64 0] rfl).put 4 (of_decide_eq_true rfl) (.int .i64 0) [.int .i64 0, .int .i64 0, .int .i64 0, .int .i64 0, .int .i64 0, .int .i64 0] rfl).put 5 (of_decide_eq_true rfl) (.int .i64 0) [.int .i64 0, .int .i64 0, .int .i64 0, .int .i64 0, .int .i64 0, .int .i64 0] rfl)
        have K9 := (bel_new (bel_new (bel_new (bel_new (bel_new (bel_new K1 (w.heap.size + 1 + 1) 0 (by omega) (.int .i64 0)) (w.heap.size + 1 + 1) 1 (by omega) (.int .i64 0)) (w.heap.size + 1 + 1) 2 (by omega) (.int .i64 0)) (w.heap.size + 1 + 1) 3 (by omega) (.int .i64 0)) (w.heap.size + 1 + 1) 4 (by omega) (.int .i64 0)) (w.heap.size + 1 + 1) 5 (by omega) (.int .i64 0))
        clear cp_0 gp_0 cp_1 gp_1 cp_2 gp_2 cp_3 gp_3 cp_4 gp_4 cp_5 gp_5 cs_0 cs_1 cs_2 cs_3 cs_4 cs_5 cs_6 cs_7 cz_0 gz_0 cz_1 gz_1 cz_2 gz_2 cz_3 gz_3 cz_4 gz_4 cz_5 gz_5
        exact ⟨bodyPost_ret (v := .agg #[.int .i64 0, .int .i64 0, .int .i64 0, .int .i64 0, .int .i64 0, .int .i64 0]) (results_arr Try.results10 A9 rfl (by kernel_rfl) (by kernel_rfl)) rfl ⟨by rw [HS.out], K9⟩⟩
      · have HS : Hid (plV (nextS ⟨3, c, g, i, l, f⟩ ⟨gap, gyro, slow, pair, lit, bad, pass, o⟩) = .agg #[.int .i64 3, .int .i64 c, .int .i64 g, .int .i64 i, .int .i64 l, .int .i64 f]) := by show plV _ = _; first | exact congrArg plV ((if_neg ho).trans ((if_pos rfl).trans (if_neg h2))) | rfl | exact congrArg plV (if_neg ho) | exact congrArg plV (if_neg t) | exact congrArg plV (if_neg u) | exact congrArg plV (if_pos u)
        go_enter Try.func10, Try.ntmps10
        go_wp2_with (with_reducible refine post_stop ?_)
        exact ⟨bodyPost_ret (v := .agg #[.int .i64 3, .int .i64 c, .int .i64 g, .int .i64 i, .int .i64 l, .int .i64 f]) (by simp [results, Try.results10, go_sem]) rfl ⟨by rw [HS.out], (bel_al (bel_al (bel_al (Below.refl w.heap.size w) _) _) _)⟩⟩
    · by_cases h0 : m = 0
      · subst h0
        cases gyro
        · have HS : Hid (plV (nextS ⟨0, c, g, i, l, f⟩ ⟨gap, false, slow, pair, lit, bad, pass, o⟩) = .agg #[.int .i64 0, .int .i64 0, .int .i64 g, .int .i64 i, .int .i64 l, .int .i64 f]) := by show plV _ = _; first | exact congrArg plV (((if_neg ho).trans ((if_neg (show ¬ (0 : Int) = 3 by decide)).trans (if_pos rfl))).trans (if_neg (show ¬ (3 : Int) ≤ 0 by decide))) | rfl | exact congrArg plV (if_neg ho) | exact congrArg plV (if_neg t) | exact congrArg plV (if_neg u) | exact congrArg plV (if_pos u)
          go_enter Try.func10, Try.ntmps10
          go_wp2_with (with_reducible refine post_stop ?_)
          exact ⟨bodyPost_ret (v := .agg #[.int .i64 0, .int .i64 0, .int .i64 g, .int .i64 i, .int .i64 l, .int .i64 f]) (by simp [results, Try.results10, go_sem]) rfl ⟨by rw [HS.out], (bel_al (bel_al (bel_al (Below.refl w.heap.size w) _) _) _)⟩⟩
        · cases slow
          · have HS : Hid (plV (nextS ⟨0, c, g, i, l, f⟩ ⟨gap, true, false, pair, lit, bad, pass, o⟩) = .agg #[.int .i64 0, .int .i64 0, .int .i64 g, .int .i64 i, .int .i64 l, .int .i64 f]) := by show plV _ = _; first | exact congrArg plV (((if_neg ho).trans ((if_neg (show ¬ (0 : Int) = 3 by decide)).trans (if_pos rfl))).trans (if_neg (show ¬ (3 : Int) ≤ 0 by decide))) | rfl | exact congrArg plV (if_neg ho) | exact congrArg plV (if_neg t) | exact congrArg plV (if_neg u) | exact congrArg plV (if_pos u)
            go_enter Try.func10, Try.ntmps10
            go_wp2_with (with_reducible refine post_stop ?_)
            exact ⟨bodyPost_ret (v := .agg #[.int .i64 0, .int .i64 0, .int .i64 g, .int .i64 i, .int .i64 l, .int .i64 f]) (by simp [results, Try.results10, go_sem]) rfl ⟨by rw [HS.out], (bel_al (bel_al (bel_al (Below.refl w.heap.size w) _) _) _)⟩⟩
          · by_cases t : 3 ≤ cntS c true
            · have HS : Hid (plV (nextS ⟨0, c, g, i, l, f⟩ ⟨gap, true, true, pair, lit, bad, pass, o⟩) = .agg #[.int .i64 1, .int .i64 0, .int .i64 0, .int .i64 0, .int .i64 0, .int .i64 f]) := by show plV _ = _; first | exact congrArg plV (((if_neg ho).trans ((if_neg (show ¬ (0 : Int) = 3 by decide)).trans (if_pos rfl))).trans (if_pos t)) | rfl | exact congrArg plV (if_neg ho) | exact congrArg plV (if_neg t) | exact congrArg plV (if_neg u) | exact congrArg plV (if_pos u)
              go_enter Try.func10, Try.ntmps10
              go_wp2_with fail
              refine (count_any c _ hc).mono ?_
              rintro e w1 ⟨rfl, b1⟩
              have A0_1 : Arr w.heap.size [.int .i64 0, .int .i64 c, .int .i64 g, .int .i64 i, .int .i64 l, .int .i64 f] w1 := (((Arr_at _ w.heap.size [.int .i64 0, .int .i64 c, .int .i64 g, .int .i64 i, .int .i64 l, .int .i64 f] 23 (by simp)).alloc _).alloc _).below b1
              have A1_1 : Arr (w.heap.size + 1) [.bool gap, .bool true, .bool true, .bool pair, .bool lit, .bool bad, .bool pass, .int .i64 o] w1 := ((Arr_at _ (w.heap.size + 1) [.bool gap, .bool true, .bool true, .bool pair, .bool lit, .bool bad, .bool pass, .int .i64 o] 25 (by simp)).alloc _).below b1
              have A2_1 : Arr (w.heap.size + 1 + 1) [.int .i64 0, .int .i64 0, .int .i64 0, .int .i64 0, .int .i64 0, .int .i64 0] w1 := (Arr_at _ (w.heap.size + 1 + 1) [.int .i64 0, .int .i64 0, .int .i64 0, .int .i64 0, .int .i64 0, .int .i64 0] 23 (by simp)).below b1
              have K1 : Below w.heap.size w w1 := bel_then (bel_al (bel_al (bel_al (Below.refl w.heap.size w) _) _) _) b1
              clear b1
              have cp_0 : w1.cell? ⟨w.heap.size, 0, none⟩ = some (.int .i64 0) := A0_1.c 0 (of_decide_eq_true rfl)
              have gp_0 := A0_1.f 0 (of_decide_eq_true rfl)
              have cp_1 : w1.cell? ⟨w.heap.size, 1, none⟩ = some (.int .i64 c) := A0_1.c 1 (of_decide_eq_true rfl)
              have gp_1 := A0_1.f 1 (of_decide_eq_true rfl)
              have cp_2 : w1.cell? ⟨w.heap.size, 2, none⟩ = some (.int .i64 g) := A0_1.c 2 (of_decide_eq_true rfl)
              have gp_2 := A0_1.f 2 (of_decide_eq_true rfl)
              have cp_3 : w1.cell? ⟨w.heap.size, 3, none⟩ = some (.int .i64 i) := A0_1.c 3 (of_decide_eq_true rfl)
              have gp_3 := A0_1.f 3 (of_decide_eq_true rfl)
              have cp_4 : w1.cell? ⟨w.heap.size, 4, none⟩ = some (.int .i64 l) := A0_1.c 4 (of_decide_eq_true rfl)
              have gp_4 := A0_1.f 4 (of_decide_eq_true rfl)
              have cp_5 : w1.cell? ⟨w.heap.size, 5, none⟩ = some (.int .i64 f) := A0_1.c 5 (of_decide_eq_true rfl)
              have gp_5 := A0_1.f 5 (of_decide_eq_true rfl)
              have cs_0 : w1.cell? ⟨(w.heap.size + 1), 0, none⟩ = some (.bool gap) := A1_1.c 0 (of_decide_eq_true rfl)
              have cs_1 : w1.cell? ⟨(w.heap.size + 1), 1, none⟩ = some (.bool true) := A1_1.c 1 (of_decide_eq_true rfl)
              have cs_2 : w1.cell? ⟨(w.heap.size + 1), 2, none⟩ = some (.bool true) := A1_1.c 2 (of_decide_eq_true rfl)
              have cs_3 : w1.cell? ⟨(w.heap.size + 1), 3, none⟩ = some (.bool pair) := A1_1.c 3 (of_decide_eq_true rfl)
              have cs_4 : w1.cell? ⟨(w.heap.size + 1), 4, none⟩ = some (.bool lit) := A1_1.c 4 (of_decide_eq_true rfl)
              have cs_5 : w1.cell? ⟨(w.heap.size + 1), 5, none⟩ = some (.bool bad) := A1_1.c 5 (of_decide_eq_true rfl)
              have cs_6 : w1.cell? ⟨(w.heap.size + 1), 6, none⟩ = some (.bool pass) := A1_1.c 6 (of_decide_eq_true rfl)
              have cs_7 : w1.cell? ⟨(w.heap.size + 1), 7, none⟩ = some (.int .i64 o) := A1_1.c 7 (of_decide_eq_true rfl)
              have cz_0 : w1.cell? ⟨(w.heap.size + 1 + 1), 0, none⟩ = some (.int .i64 0) := A2_1.c 0 (of_decide_eq_true rfl)
              have gz_0 := A2_1.f 0 (of_decide_eq_true rfl)
              have cz_1 : w1.cell? ⟨(w.heap.size + 1 + 1), 1, none⟩ = some (.int .i64 0) := A2_1.c 1 (of_decide_eq_true rfl)
              have gz_1 := A2_1.f 1 (of_decide_eq_true rfl)
              have cz_2 : w1.cell? ⟨(w.heap.size + 1 + 1), 2, none⟩ = some (.int .i64 0) := A2_1.c 2 (of_decide_eq_true rfl)
              have gz_2 := A2_1.f 2 (of_decide_eq_true rfl)
              have cz_3 : w1.cell? ⟨(w.heap.size + 1 + 1), 3, none⟩ = some (.int .i64 0) := A2_1.c 3 (of_decide_eq_true rfl)
              have gz_3 := A2_1.f 3 (of_decide_eq_true rfl)
              have cz_4 : w1.cell? ⟨(w.heap.size + 1 + 1), 4, none⟩ = some (.int .i64 0) := A2_1.c 4 (of_decide_eq_true rfl)
              have gz_4 := A2_1.f 4 (of_decide_eq_true rfl)
              have cz_5 : w1.cell? ⟨(w.heap.size + 1 + 1), 5, none⟩ = some (.int .i64 0) := A2_1.c 5 (of_decide_eq_true rfl)
              have gz_5 := A2_1.f 5 (of_decide_eq_true rfl)
              have zz1 := A2_1.lies
              go_wp2_with fail
              refine (to_any 1 (f) _).mono ?_
              rintro e w2 ⟨rfl, b2⟩
              have A0_2 : Arr w.heap.size [.int .i64 0, .int .i64 (cntS c true), .int .i64 g, .int .i64 i, .int .i64 l, .int .i64 f] w2 := (A0_1.put 1 (of_decide_eq_true rfl) (.int .i64 (cntS c true)) [.int .i64 0, .int .i64 (cntS c true), .int .i64 g, .int .i64 i, .int .i64 l, .int .i64 f] rfl).below b2
              have A1_2 : Arr (w.heap.size + 1) [.bool gap, .bool true, .bool true, .bool pair, .bool lit, .bool bad, .bool pass, .int .i64 o] w2 := (A1_1.new w.heap.size 1 (by omega) (.int .i64 (cntS c true))).below b2
              have A2_2 : Arr (w.heap.size + 1 + 1) [.int .i64 0, .int .i64 0, .int .i64 0, .int .i64 0, .int .i64 0, .int .i64 0] w2 := (A2_1.new w.heap.size 1 (by omega) (.int .i64 (cntS c true))).below b2
              have K2 : Below w.heap.size w w2 := bel_then (bel_new K1 w.heap.size 1 (by omega) (.int .i64 (cntS c true))) b2
              clear A0_1 A1_1 A2_1 K1 cp_0 gp_0 cp_1 gp_1 cp_2 gp_2 cp_3 gp_3 cp_4 gp_4 cp_5 gp_5 cs_0 cs_1 cs_2 cs_3 cs_4 cs_5 cs_6 cs_7 cz_0 gz_0 cz_1 gz_1 cz_2 gz_2 cz_3 gz_3 cz_4 gz_4 cz_5 gz_5 zz1
              clear b2
              have cp_0 : w2.cell? ⟨w.heap.size, 0, none⟩ = some (.int .i64 0) := A0_2.c 0 (of_decide_eq_true rfl)
              have gp_0 := A0_2.f 0 (of_decide_eq_true rfl)
              have cp_1 : w2.cell? ⟨w.heap.size, 1, none⟩ = some (.int .i64 (cntS c true)) := A0_2.c 1 (of_decide_eq_true rfl)
              have gp_1 := A0_2.f 1 (of_decide_eq_true rfl)
              have cp_2 : w2.cell? ⟨w.heap.size, 2, none⟩ = some (.int .i64 g) := A0_2.c 2 (of_decide_eq_true rfl)
              have gp_2 := A0_2.f 2 (of_decide_eq_true rfl)
              have cp_3 : w2.cell? ⟨w.heap.size, 3, none⟩ = some (.int .i64 i) := A0_2.c 3 (of_decide_eq_true rfl)
              have gp_3 := A0_2.f 3 (of_decide_eq_true rfl)
              have cp_4 : w2.cell? ⟨w.heap.size, 4, none⟩ = some (.int .i64 l) := A0_2.c 4 (of_decide_eq_true rfl)
              have gp_4 := A0_2.f 4 (of_decide_eq_true rfl)
              have cp_5 : w2.cell? ⟨w.heap.size, 5, none⟩ = some (.int .i64 f) := A0_2.c 5 (of_decide_eq_true rfl)
              have gp_5 := A0_2.f 5 (of_decide_eq_true rfl)
              have cs_0 : w2.cell? ⟨(w.heap.size + 1), 0, none⟩ = some (.bool gap) := A1_2.c 0 (of_decide_eq_true rfl)
              have cs_1 : w2.cell? ⟨(w.heap.size + 1), 1, none⟩ = some (.bool true) := A1_2.c 1 (of_decide_eq_true rfl)
              have cs_2 : w2.cell? ⟨(w.heap.size + 1), 2, none⟩ = some (.bool true) := A1_2.c 2 (of_decide_eq_true rfl)
              have cs_3 : w2.cell? ⟨(w.heap.size + 1), 3, none⟩ = some (.bool pair) := A1_2.c 3 (of_decide_eq_true rfl)
              have cs_4 : w2.cell? ⟨(w.heap.size + 1), 4, none⟩ = some (.bool lit) := A1_2.c 4 (of_decide_eq_true rfl)
              have cs_5 : w2.cell? ⟨(w.heap.size + 1), 5, none⟩ = some (.bool bad) := A1_2.c 5 (of_decide_eq_true rfl)
              have cs_6 : w2.cell? ⟨(w.heap.size + 1), 6, none⟩ = some (.bool pass) := A1_2.c 6 (of_decide_eq_true rfl)
              have cs_7 : w2.cell? ⟨(w.heap.size + 1), 7, none⟩ = some (.int .i64 o) := A1_2.c 7 (of_decide_eq_true rfl)
              have cz_0 : w2.cell? ⟨(w.heap.size + 1 + 1), 0, none⟩ = some (.int .i64 0) := A2_2.c 0 (of_decide_eq_true rfl)
              have gz_0 := A2_2.f 0 (of_decide_eq_true rfl)
              have cz_1 : w2.cell? ⟨(w.heap.size + 1 + 1), 1, none⟩ = some (.int .i64 0) := A2_2.c 1 (of_decide_eq_true rfl)
              have gz_1 := A2_2.f 1 (of_decide_eq_true rfl)
              have cz_2 : w2.cell? ⟨(w.heap.size + 1 + 1), 2, none⟩ = some (.int .i64 0) := A2_2.c 2 (of_decide_eq_true rfl)
              have gz_2 := A2_2.f 2 (of_decide_eq_true rfl)
              have cz_3 : w2.cell? ⟨(w.heap.size + 1 + 1), 3, none⟩ = some (.int .i64 0) := A2_2.c 3 (of_decide_eq_true rfl)
              have gz_3 := A2_2.f 3 (of_decide_eq_true rfl)
              have cz_4 : w2.cell? ⟨(w.heap.size + 1 + 1), 4, none⟩ = some (.int .i64 0) := A2_2.c 4 (of_decide_eq_true rfl)
              have gz_4 := A2_2.f 4 (of_decide_eq_true rfl)
              have cz_5 : w2.cell? ⟨(w.heap.size + 1 + 1), 5, none⟩ = some (.int .i64 0) := A2_2.c 5 (of_decide_eq_true rfl)
              have gz_5 := A2_2.f 5 (of_decide_eq_true rfl)
              have zz2 := A2_2.lies
              go_wp2_with (with_reducible refine post_stop ?_)
              have A9 := ((((((A2_2.put 0 (of_decide_eq_true rfl) (.int .i64 1) [.int .i64 1, .int .i64 0, .int .i64 0, .int .i64 0, .int .i64 0, .int .i64 0] rfl).put 1 (of_decide_eq_true rfl) (.int .i64 0) [.int .i64 1, .int .i64 0, .int .i64 0, .int .i64 0, .int .i64 0, .int .i64 0] rfl).put 2 (of_decide_eq_true rfl) (.int .i64 0) [.int .i64 1, .int .i64 0, .int .i64 0, .int .i64 0, .int .i64 0, .int .i64 0] rfl).put 3 (of_decide_eq_true rfl) (.int .i64 0) [.int .i64 1, .int .i64 0, .int .i64 0, .int .i64 0, .int .i64 0, .int .i64 0] rfl).put 4 (of_decide_eq_true rfl) (.int .i64 0) [.int .i64 1, .int .i64 0, .int .i64 0, .int .i64 0, .int .i64 0, .int .i64 0] rfl).put 5 (of_decide_eq_true rfl) (.int .i64 f) [.int .i64 1, .int .i64 0, .int .i64 0, .int .i64 0, .int .i64 0, .int .i64 f] rfl)
              have K9 := (bel_new (bel_new (bel_new (bel_new (bel_new (bel_new K2 (w.heap.size + 1 + 1) 0 (by omega) (.int .i64 1)) (w.heap.size + 1 + 1) 1 (by omega) (.int .i64 0)) (w.heap.size + 1 + 1) 2 (by omega) (.int .i64 0)) (w.heap.size + 1 + 1) 3 (by omega) (.int .i64 0)) (w.heap.size + 1 + 1) 4 (by omega) (.int .i64 0)) (w.heap.size + 1 + 1) 5 (by omega) (.int .i64 f))
              clear cp_0 gp_0 cp_1 gp_1 cp_2 gp_2 cp_3 gp_3 cp_4 gp_4 cp_5 gp_5 cs_0 cs_1 cs_2 cs_3 cs_4 cs_5 cs_6 cs_7 cz_0 gz_0 cz_1 gz_1 cz_2 gz_2 cz_3 gz_3 cz_4 gz_4 cz_5 gz_5
              exact ⟨bodyPost_ret (v := .agg #[.int .i64 1, .int .i64 0, .int .i64 0, .int .i64 0, .int .i64 0, .int .i64 f]) (results_arr Try.results10 A9 rfl (by kernel_rfl) (by kernel_rfl)) rfl ⟨by rw [HS.out], K9⟩⟩
            · have HS : Hid (plV (nextS ⟨0, c, g, i, l, f⟩ ⟨gap, true, true, pair, lit, bad, pass, o⟩) = .agg #[.int .i64 0, .int .i64 (cntS c true), .int .i64 g, .int .i64 i, .int .i64 l, .int .i64 f]) := by show plV _ = _; first | exact congrArg plV (((if_neg ho).trans ((if_neg (show ¬ (0 : Int) = 3 by decide)).trans (if_pos rfl))).trans (if_neg t)) | rfl | exact congrArg plV (if_neg ho) | exact congrArg plV (if_neg t) | exact congrArg plV (if_neg u) | exact congrArg plV (if_pos u)
              go_enter Try.func10, Try.ntmps10
              go_wp2_with fail
              refine (count_any c _ hc).mono ?_
              rintro e w1 ⟨rfl, b1⟩
              have A0_1 : Arr w.heap.size [.int .i64 0, .int .i64 c, .int .i64 g, .int .i64 i, .int .i64 l, .int .i64 f] w1 := (((Arr_at _ w.heap.size [.int .i64 0, .int .i64 c, .int .i64 g, .int .i64 i, .int .i64 l, .int .i64 f] 23 (by simp)).alloc _).alloc _).below b1
              have A1_1 : Arr (w.heap.size + 1) [.bool gap, .bool true, .bool true, .bool pair, .bool lit, .bool bad, .bool pass, .int .i64 o] w1 := ((Arr_at _ (w.heap.size + 1) [.bool gap, .bool true, .bool true, .bool pair, .bool lit, .bool bad, .bool pass, .int .i64 o] 25 (by simp)).alloc _).below b1
              have A2_1 : Arr (w.heap.size + 1 + 1) [.int .i64 0, .int .i64 0, .int .i64 0, .int .i64 0, .int .i64 0, .int .i64 0] w1 := (Arr_at _ (w.heap.size + 1 + 1) [.int .i64 0, .int .i64 0, .int .i64 0, .int .i64 0, .int .i64 0, .int .i64 0] 23 (by simp)).below b1
              have K1 : Below w.heap.size w w1 := bel_then (bel_al (bel_al (bel_al (Below.refl w.heap.size w) _) _) _) b1
              clear b1
              have cp_0 : w1.cell? ⟨w.heap.size, 0, none⟩ = some (.int .i64 0) := A0_1.c 0 (of_decide_eq_true rfl)
              have gp_0 := A0_1.f 0 (of_decide_eq_true rfl)
              have cp_1 : w1.cell? ⟨w.heap.size, 1, none⟩ = some (.int .i64 c) := A0_1.c 1 (of_decide_eq_true rfl)
              have gp_1 := A0_1.f 1 (of_decide_eq_true rfl)
              have cp_2 : w1.cell? ⟨w.heap.size, 2, none⟩ = some (.int .i64 g) := A0_1.c 2 (of_decide_eq_true rfl)
              have gp_2 := A0_1.f 2 (of_decide_eq_true rfl)
              have cp_3 : w1.cell? ⟨w.heap.size, 3, none⟩ = some (.int .i64 i) := A0_1.c 3 (of_decide_eq_true rfl)
              have gp_3 := A0_1.f 3 (of_decide_eq_true rfl)
              have cp_4 : w1.cell? ⟨w.heap.size, 4, none⟩ = some (.int .i64 l) := A0_1.c 4 (of_decide_eq_true rfl)
              have gp_4 := A0_1.f 4 (of_decide_eq_true rfl)
              have cp_5 : w1.cell? ⟨w.heap.size, 5, none⟩ = some (.int .i64 f) := A0_1.c 5 (of_decide_eq_true rfl)
              have gp_5 := A0_1.f 5 (of_decide_eq_true rfl)
              have cs_0 : w1.cell? ⟨(w.heap.size + 1), 0, none⟩ = some (.bool gap) := A1_1.c 0 (of_decide_eq_true rfl)
              have cs_1 : w1.cell? ⟨(w.heap.size + 1), 1, none⟩ = some (.bool true) := A1_1.c 1 (of_decide_eq_true rfl)
              have cs_2 : w1.cell? ⟨(w.heap.size + 1), 2, none⟩ = some (.bool true) := A1_1.c 2 (of_decide_eq_true rfl)
              have cs_3 : w1.cell? ⟨(w.heap.size + 1), 3, none⟩ = some (.bool pair) := A1_1.c 3 (of_decide_eq_true rfl)
              have cs_4 : w1.cell? ⟨(w.heap.size + 1), 4, none⟩ = some (.bool lit) := A1_1.c 4 (of_decide_eq_true rfl)
              have cs_5 : w1.cell? ⟨(w.heap.size + 1), 5, none⟩ = some (.bool bad) := A1_1.c 5 (of_decide_eq_true rfl)
              have cs_6 : w1.cell? ⟨(w.heap.size + 1), 6, none⟩ = some (.bool pass) := A1_1.c 6 (of_decide_eq_true rfl)
              have cs_7 : w1.cell? ⟨(w.heap.size + 1), 7, none⟩ = some (.int .i64 o) := A1_1.c 7 (of_decide_eq_true rfl)
              have cz_0 : w1.cell? ⟨(w.heap.size + 1 + 1), 0, none⟩ = some (.int .i64 0) := A2_1.c 0 (of_decide_eq_true rfl)
              have gz_0 := A2_1.f 0 (of_decide_eq_true rfl)
              have cz_1 : w1.cell? ⟨(w.heap.size + 1 + 1), 1, none⟩ = some (.int .i64 0) := A2_1.c 1 (of_decide_eq_true rfl)
              have gz_1 := A2_1.f 1 (of_decide_eq_true rfl)
              have cz_2 : w1.cell? ⟨(w.heap.size + 1 + 1), 2, none⟩ = some (.int .i64 0) := A2_1.c 2 (of_decide_eq_true rfl)
              have gz_2 := A2_1.f 2 (of_decide_eq_true rfl)
              have cz_3 : w1.cell? ⟨(w.heap.size + 1 + 1), 3, none⟩ = some (.int .i64 0) := A2_1.c 3 (of_decide_eq_true rfl)
              have gz_3 := A2_1.f 3 (of_decide_eq_true rfl)
              have cz_4 : w1.cell? ⟨(w.heap.size + 1 + 1), 4, none⟩ = some (.int .i64 0) := A2_1.c 4 (of_decide_eq_true rfl)
              have gz_4 := A2_1.f 4 (of_decide_eq_true rfl)
              have cz_5 : w1.cell? ⟨(w.heap.size + 1 + 1), 5, none⟩ = some (.int .i64 0) := A2_1.c 5 (of_decide_eq_true rfl)
              have gz_5 := A2_1.f 5 (of_decide_eq_true rfl)
              have zz1 := A2_1.lies
              go_wp2_with (with_reducible refine post_stop ?_)
              have A9 := (((((((A2_1.new w.heap.size 1 (by omega) (.int .i64 (cntS c true))).put 0 (of_decide_eq_true rfl) (.int .i64 0) [.int .i64 0, .int .i64 0, .int .i64 0, .int .i64 0, .int .i64 0, .int .i64 0] rfl).put 1 (of_decide_eq_true rfl) (.int .i64 (cntS c true)) [.int .i64 0, .int .i64 (cntS c true), .int .i64 0, .int .i64 0, .int .i64 0, .int .i64 0] rfl).put 2 (of_decide_eq_true rfl) (.int .i64 g) [.int .i64 0, .int .i64 (cntS c true), .int .i64 g, .int .i64 0, .int .i64 0, .int .i64 0] rfl).put 3 (of_decide_eq_true rfl) (.int .i64 i) [.int .i64 0, .int .i64 (cntS c true), .int .i64 g, .int .i64 i, .int .i64 0, .int .i64 0] rfl).put 4 (of_decide_eq_true rfl) (.int .i64 l) [.int .i64 0, .int .i64 (cntS c true), .int .i64 g, .int .i64 i, .int .i64 l, .int .i64 0] rfl).put 5 (of_decide_eq_true rfl) (.int .i64 f) [.int .i64 0, .int .i64 (cntS c true), .int .i64 g, .int .i64 i, .int .i64 l, .int .i64 f] rfl)
              have K9 := (bel_new (bel_new (bel_new (bel_new (bel_new (bel_new (bel_new K1 w.heap.size 1 (by omega) (.int .i64 (cntS c true))) (w.heap.size + 1 + 1) 0 (by omega) (.int .i64 0)) (w.heap.size + 1 + 1) 1 (by omega) (.int .i64 (cntS c true))) (w.heap.size + 1 + 1) 2 (by omega) (.int .i64 g)) (w.heap.size + 1 + 1) 3 (by omega) (.int .i64 i)) (w.heap.size + 1 + 1) 4 (by omega) (.int .i64 l)) (w.heap.size + 1 + 1) 5 (by omega) (.int .i64 f))
              clear cp_0 gp_0 cp_1 gp_1 cp_2 gp_2 cp_3 gp_3 cp_4 gp_4 cp_5 gp_5 cs_0 cs_1 cs_2 cs_3 cs_4 cs_5 cs_6 cs_7 cz_0 gz_0 cz_1 gz_1 cz_2 gz_2 cz_3 gz_3 cz_4 gz_4 cz_5 gz_5
              exact ⟨bodyPost_ret (v := .agg #[.int .i64 0, .int .i64 (cntS c true), .int .i64 g, .int .i64 i, .int .i64 l, .int .i64 f]) (results_arr Try.results10 A9 rfl (by kernel_rfl) (by kernel_rfl)) rfl ⟨by rw [HS.out], K9⟩⟩
      · by_cases h1 : m = 1
        · subst h1
          cases gap
          · cases gyro
            · have HS : Hid (plV (nextS ⟨1, c, g, i, l, f⟩ ⟨false, false, slow, pair, lit, bad, pass, o⟩) = .agg #[.int .i64 1, .int .i64 c, .int .i64 0, .int .i64 i, .int .i64 l, .int .i64 f]) := by show plV _ = _; first | exact congrArg plV (((if_neg ho).trans ((if_neg (show ¬ (1 : Int) = 3 by decide)).trans ((if_neg (show ¬ (1 : Int) = 0 by decide)).trans (if_pos rfl)))).trans (if_neg (show ¬ (2 : Int) ≤ 0 by decide))) | rfl | exact congrArg plV (if_neg ho) | exact congrArg plV (if_neg t) | exact congrArg plV (if_neg u) | exact congrArg plV (if_pos u)
              go_enter Try.func10, Try.ntmps10
              go_wp2_with (with_reducible refine post_stop ?_)
              exact ⟨bodyPost_ret (v := .agg #[.int .i64 1, .int .i64 c, .int .i64 0, .int .i64 i, .int .i64 l, .int .i64 f]) (by simp [results, Try.results10, go_sem]) rfl ⟨by rw [HS.out], (bel_al (bel_al (bel_al (Below.refl w.heap.size w) _) _) _)⟩⟩
            · cases slow
              · have HS : Hid (plV (nextS ⟨1, c, g, i, l, f⟩ ⟨false, true, false, pair, lit, bad, pass, o⟩) = .agg #[.int .i64 0, .int .i64 0, .int .i64 0, .int .i64 0, .int .i64 0, .int .i64 f]) := by show plV _ = _; first | exact congrArg plV ((if_neg ho).trans ((if_neg (show ¬ (1 : Int) = 3 by decide)).trans ((if_neg (show ¬ (1 : Int) = 0 by decide)).trans (if_pos rfl)))) | rfl | exact congrArg plV (if_neg ho) | exact congrArg plV (if_neg t) | exact congrArg plV (if_neg u) | exact congrArg plV (if_pos u)
                go_enter Try.func10, Try.ntmps10
                go_wp2_with fail
                refine (to_any 0 (f) _).mono ?_
                rintro e w1 ⟨rfl, b1⟩
                have A0_1 : Arr w.heap.size [.int .i64 1, .int .i64 c, .int .i64 g, .int .i64 i, .int .i64 l, .int .i64 f] w1 := (((Arr_at _ w.heap.size [.int .i64 1, .int .i64 c, .int .i64 g, .int .i64 i, .int .i64 l, .int .i64 f] 23 (by simp)).alloc _).alloc _).below b1
                have A1_1 : Arr (w.heap.size + 1) [.bool false, .bool true, .bool false, .bool pair, .bool lit, .bool bad, .bool pass, .int .i64 o] w1 := ((Arr_at _ (w.heap.size + 1) [.bool false, .bool true, .bool false, .bool pair, .bool lit, .bool bad, .bool pass, .int .i64 o] 25 (by simp)).alloc _).below b1
                have A2_1 : Arr (w.heap.size + 1 + 1) [.int .i64 0, .int .i64 0, .int .i64 0, .int .i64 0, .int .i64 0, .int .i64 0] w1 := (Arr_at _ (w.heap.size + 1 + 1) [.int .i64 0, .int .i64 0, .int .i64 0, .int .i64 0, .int .i64 0, .int .i64 0] 23 (by simp)).below b1
                have K1 : Below w.heap.size w w1 := bel_then (bel_al (bel_al (bel_al (Below.refl w.heap.size w) _) _) _) b1
                clear b1
                have cp_0 : w1.cell? ⟨w.heap.size, 0, none⟩ = some (.int .i64 1) := A0_1.c 0 (of_decide_eq_true rfl)
                have gp_0 := A0_1.f 0 (of_decide_eq_true rfl)
                have cp_1 : w1.cell? ⟨w.heap.size, 1, none⟩ = some (.int .i64 c) := A0_1.c 1 (of_decide_eq_true rfl)
                have gp_1 := A0_1.f 1 (of_decide_eq_true rfl)
                have cp_2 : w1.cell? ⟨w.heap.size, 2, none⟩ = some (.int .i64 g) := A0_1.c 2 (of_decide_eq_true rfl)
                have gp_2 := A0_1.f 2 (of_decide_eq_true rfl)
                have cp_3 : w1.cell? ⟨w.heap.size, 3, none⟩ = some (.int .i64 i) := A0_1.c 3 (of_decide_eq_true rfl)
                have gp_3 := A0_1.f 3 (of_decide_eq_true rfl)
                have cp_4 : w1.cell? ⟨w.heap.size, 4, none⟩ = some (.int .i64 l) := A0_1.c 4 (of_decide_eq_true rfl)
                have gp_4 := A0_1.f 4 (of_decide_eq_true rfl)
                have cp_5 : w1.cell? ⟨w.heap.size, 5, none⟩ = some (.int .i64 f) := A0_1.c 5 (of_decide_eq_true rfl)
                have gp_5 := A0_1.f 5 (of_decide_eq_true rfl)
                have cs_0 : w1.cell? ⟨(w.heap.size + 1), 0, none⟩ = some (.bool false) := A1_1.c 0 (of_decide_eq_true rfl)
                have cs_1 : w1.cell? ⟨(w.heap.size + 1), 1, none⟩ = some (.bool true) := A1_1.c 1 (of_decide_eq_true rfl)
                have cs_2 : w1.cell? ⟨(w.heap.size + 1), 2, none⟩ = some (.bool false) := A1_1.c 2 (of_decide_eq_true rfl)
                have cs_3 : w1.cell? ⟨(w.heap.size + 1), 3, none⟩ = some (.bool pair) := A1_1.c 3 (of_decide_eq_true rfl)
                have cs_4 : w1.cell? ⟨(w.heap.size + 1), 4, none⟩ = some (.bool lit) := A1_1.c 4 (of_decide_eq_true rfl)
                have cs_5 : w1.cell? ⟨(w.heap.size + 1), 5, none⟩ = some (.bool bad) := A1_1.c 5 (of_decide_eq_true rfl)
                have cs_6 : w1.cell? ⟨(w.heap.size + 1), 6, none⟩ = some (.bool pass) := A1_1.c 6 (of_decide_eq_true rfl)
                have cs_7 : w1.cell? ⟨(w.heap.size + 1), 7, none⟩ = some (.int .i64 o) := A1_1.c 7 (of_decide_eq_true rfl)
                have cz_0 : w1.cell? ⟨(w.heap.size + 1 + 1), 0, none⟩ = some (.int .i64 0) := A2_1.c 0 (of_decide_eq_true rfl)
                have gz_0 := A2_1.f 0 (of_decide_eq_true rfl)
                have cz_1 : w1.cell? ⟨(w.heap.size + 1 + 1), 1, none⟩ = some (.int .i64 0) := A2_1.c 1 (of_decide_eq_true rfl)
                have gz_1 := A2_1.f 1 (of_decide_eq_true rfl)
                have cz_2 : w1.cell? ⟨(w.heap.size + 1 + 1), 2, none⟩ = some (.int .i64 0) := A2_1.c 2 (of_decide_eq_true rfl)
                have gz_2 := A2_1.f 2 (of_decide_eq_true rfl)
                have cz_3 : w1.cell? ⟨(w.heap.size + 1 + 1), 3, none⟩ = some (.int .i64 0) := A2_1.c 3 (of_decide_eq_true rfl)
                have gz_3 := A2_1.f 3 (of_decide_eq_true rfl)
                have cz_4 : w1.cell? ⟨(w.heap.size + 1 + 1), 4, none⟩ = some (.int .i64 0) := A2_1.c 4 (of_decide_eq_true rfl)
                have gz_4 := A2_1.f 4 (of_decide_eq_true rfl)
                have cz_5 : w1.cell? ⟨(w.heap.size + 1 + 1), 5, none⟩ = some (.int .i64 0) := A2_1.c 5 (of_decide_eq_true rfl)
                have gz_5 := A2_1.f 5 (of_decide_eq_true rfl)
                have zz1 := A2_1.lies
                go_wp2_with (with_reducible refine post_stop ?_)
                have A9 := ((((((A2_1.put 0 (of_decide_eq_true rfl) (.int .i64 0) [.int .i64 0, .int .i64 0, .int .i64 0, .int .i64 0, .int .i64 0, .int .i64 0] rfl).put 1 (of_decide_eq_true rfl) (.int .i64 0) [.int .i64 0, .int .i64 0, .int .i64 0, .int .i64 0, .int .i64 0, .int .i64 0] rfl).put 2 (of_decide_eq_true rfl) (.int .i64 0) [.int .i64 0, .int .i64 0, .int .i64 0, .int .i64 0, .int .i64 0, .int .i64 0] rfl).put 3 (of_decide_eq_true rfl) (.int .i64 0) [.int .i64 0, .int .i64 0, .int .i64 0, .int .i64 0, .int .i64 0, .int .i64 0] rfl).put 4 (of_decide_eq_true rfl) (.int .i64 0) [.int .i64 0, .int .i64 0, .int .i64 0, .int .i64 0, .int .i64 0, .int .i64 0] rfl).put 5 (of_decide_eq_true rfl) (.int .i64 f) [.int .i64 0, .int .i64 0, .int .i64 0, .int .i64 0, .int .i64 0, .int .i64 f] rfl)
                have K9 := (bel_new (bel_new (bel_new (bel_new (bel_new (bel_new K1 (w.heap.size + 1 + 1) 0 (by omega) (.int .i64 0)) (w.heap.size + 1 + 1) 1 (by omega) (.int .i64 0)) (w.heap.size + 1 + 1) 2 (by omega) (.int .i64 0)) (w.heap.size + 1 + 1) 3 (by omega) (.int .i64 0)) (w.heap.size + 1 + 1) 4 (by omega) (.int .i64 0)) (w.heap.size + 1 + 1) 5 (by omega) (.int .i64 f))
                clear cp_0 gp_0 cp_1 gp_1 cp_2 gp_2 cp_3 gp_3 cp_4 gp_4 cp_5 gp_5 cs_0 cs_1 cs_2 cs_3 cs_4 cs_5 cs_6 cs_7 cz_0 gz_0 cz_1 gz_1 cz_2 gz_2 cz_3 gz_3 cz_4 gz_4 cz_5 gz_5
                exact ⟨bodyPost_ret (v := .agg #[.int .i64 0, .int .i64 0, .int .i64 0, .int .i64 0, .int .i64 0, .int .i64 f]) (results_arr Try.results10 A9 rfl (by kernel_rfl) (by kernel_rfl)) rfl ⟨by rw [HS.out], K9⟩⟩
              · cases pair
                · have HS : Hid (plV (nextS ⟨1, c, g, i, l, f⟩ ⟨false, true, true, false, lit, bad, pass, o⟩) = .agg #[.int .i64 1, .int .i64 c, .int .i64 0, .int .i64 i, .int .i64 l, .int .i64 f]) := by show plV _ = _; first | exact congrArg plV (((if_neg ho).trans ((if_neg (show ¬ (1 : Int) = 3 by decide)).trans ((if_neg (show ¬ (1 : Int) = 0 by decide)).trans (if_pos rfl)))).trans (if_neg (show ¬ (2 : Int) ≤ 0 by decide))) | rfl | exact congrArg plV (if_neg ho) | exact congrArg plV (if_neg t) | exact congrArg plV (if_neg u) | exact congrArg plV (if_pos u)
                  go_enter Try.func10, Try.ntmps10
                  go_wp2_with (with_reducible refine post_stop ?_)
                  exact ⟨bodyPost_ret (v := .agg #[.int .i64 1, .int .i64 c, .int .i64 0, .int .i64 i, .int .i64 l, .int .i64 f]) (by simp [results, Try.results10, go_sem]) rfl ⟨by rw [HS.out], (bel_al (bel_al (bel_al (Below.refl w.heap.size w) _) _) _)⟩⟩
                · cases lit
                  · have HS : Hid (plV (nextS ⟨1, c, g, i, l, f⟩ ⟨false, true, true, true, false, bad, pass, o⟩) = .agg #[.int .i64 1, .int .i64 c, .int .i64 0, .int .i64 i, .int .i64 l, .int .i64 f]) := by show plV _ = _; first | exact congrArg plV (((if_neg ho).trans ((if_neg (show ¬ (1 : Int) = 3 by decide)).trans ((if_neg (show ¬ (1 : Int) = 0 by decide)).trans (if_pos rfl)))).trans (if_neg (show ¬ (2 : Int) ≤ 0 by decide))) | rfl | exact congrArg plV (if_neg ho) | exact congrArg plV (if_neg t) | exact congrArg plV (if_neg u) | exact congrArg plV (if_pos u)
                    go_enter Try.func10, Try.ntmps10
                    go_wp2_with (with_reducible refine post_stop ?_)
                    exact ⟨bodyPost_ret (v := .agg #[.int .i64 1, .int .i64 c, .int .i64 0, .int .i64 i, .int .i64 l, .int .i64 f]) (by simp [results, Try.results10, go_sem]) rfl ⟨by rw [HS.out], (bel_al (bel_al (bel_al (Below.refl w.heap.size w) _) _) _)⟩⟩
                  · by_cases t : 2 ≤ cntS g true
                    · have HS : Hid (plV (nextS ⟨1, c, g, i, l, f⟩ ⟨false, true, true, true, true, bad, pass, o⟩) = .agg #[.int .i64 2, .int .i64 0, .int .i64 0, .int .i64 0, .int .i64 0, .int .i64 f]) := by show plV _ = _; first | exact congrArg plV (((if_neg ho).trans ((if_neg (show ¬ (1 : Int) = 3 by decide)).trans ((if_neg (show ¬ (1 : Int) = 0 by decide)).trans (if_pos rfl)))).trans (if_pos t)) | rfl | exact congrArg plV (if_neg ho) | exact congrArg plV (if_neg t) | exact congrArg plV (if_neg u) | exact congrArg plV (if_pos u)
                      go_enter Try.func10, Try.ntmps10
                      go_wp2_with fail
                      refine (count_any g _ hg).mono ?_
                      rintro e w1 ⟨rfl, b1⟩
                      have A0_1 : Arr w.heap.size [.int .i64 1, .int .i64 c, .int .i64 g, .int .i64 i, .int .i64 l, .int .i64 f] w1 := (((Arr_at _ w.heap.size [.int .i64 1, .int .i64 c, .int .i64 g, .int .i64 i, .int .i64 l, .int .i64 f] 23 (by simp)).alloc _).alloc _).below b1
                      have A1_1 : Arr (w.heap.size + 1) [.bool false, .bool true, .bool true, .bool true, .bool true, .bool bad, .bool pass, .int .i64 o] w1 := ((Arr_at _ (w.heap.size + 1) [.bool false, .bool true, .bool true, .bool true, .bool true, .bool bad, .bool pass, .int .i64 o] 25 (by simp)).alloc _).below b1
                      have A2_1 : Arr (w.heap.size + 1 + 1) [.int .i64 0, .int .i64 0, .int .i64 0, .int .i64 0, .int .i64 0, .int .i64 0] w1 := (Arr_at _ (w.heap.size + 1 + 1) [.int .i64 0, .int .i64 0, .int .i64 0, .int .i64 0, .int .i64 0, .int .i64 0] 23 (by simp)).below b1
                      have K1 : Below w.heap.size w w1 := bel_then (bel_al (bel_al (bel_al (Below.refl w.heap.size w) _) _) _) b1
                      clear b1
                      have cp_0 : w1.cell? ⟨w.heap.size, 0, none⟩ = some (.int .i64 1) := A0_1.c 0 (of_decide_eq_true rfl)
                      have gp_0 := A0_1.f 0 (of_decide_eq_true rfl)
                      have cp_1 : w1.cell? ⟨w.heap.size, 1, none⟩ = some (.int .i64 c) := A0_1.c 1 (of_decide_eq_true rfl)
                      have gp_1 := A0_1.f 1 (of_decide_eq_true rfl)
                      have cp_2 : w1.cell? ⟨w.heap.size, 2, none⟩ = some (.int .i64 g) := A0_1.c 2 (of_decide_eq_true rfl)
                      have gp_2 := A0_1.f 2 (of_decide_eq_true rfl)
                      have cp_3 : w1.cell? ⟨w.heap.size, 3, none⟩ = some (.int .i64 i) := A0_1.c 3 (of_decide_eq_true rfl)
                      have gp_3 := A0_1.f 3 (of_decide_eq_true rfl)
                      have cp_4 : w1.cell? ⟨w.heap.size, 4, none⟩ = some (.int .i64 l) := A0_1.c 4 (of_decide_eq_true rfl)
                      have gp_4 := A0_1.f 4 (of_decide_eq_true rfl)
                      have cp_5 : w1.cell? ⟨w.heap.size, 5, none⟩ = some (.int .i64 f) := A0_1.c 5 (of_decide_eq_true rfl)
                      have gp_5 := A0_1.f 5 (of_decide_eq_true rfl)
                      have cs_0 : w1.cell? ⟨(w.heap.size + 1), 0, none⟩ = some (.bool false) := A1_1.c 0 (of_decide_eq_true rfl)
                      have cs_1 : w1.cell? ⟨(w.heap.size + 1), 1, none⟩ = some (.bool true) := A1_1.c 1 (of_decide_eq_true rfl)
                      have cs_2 : w1.cell? ⟨(w.heap.size + 1), 2, none⟩ = some (.bool true) := A1_1.c 2 (of_decide_eq_true rfl)
                      have cs_3 : w1.cell? ⟨(w.heap.size + 1), 3, none⟩ = some (.bool true) := A1_1.c 3 (of_decide_eq_true rfl)
                      have cs_4 : w1.cell? ⟨(w.heap.size + 1), 4, none⟩ = some (.bool true) := A1_1.c 4 (of_decide_eq_true rfl)
                      have cs_5 : w1.cell? ⟨(w.heap.size + 1), 5, none⟩ = some (.bool bad) := A1_1.c 5 (of_decide_eq_true rfl)
                      have cs_6 : w1.cell? ⟨(w.heap.size + 1), 6, none⟩ = some (.bool pass) := A1_1.c 6 (of_decide_eq_true rfl)
                      have cs_7 : w1.cell? ⟨(w.heap.size + 1), 7, none⟩ = some (.int .i64 o) := A1_1.c 7 (of_decide_eq_true rfl)
                      have cz_0 : w1.cell? ⟨(w.heap.size + 1 + 1), 0, none⟩ = some (.int .i64 0) := A2_1.c 0 (of_decide_eq_true rfl)
                      have gz_0 := A2_1.f 0 (of_decide_eq_true rfl)
                      have cz_1 : w1.cell? ⟨(w.heap.size + 1 + 1), 1, none⟩ = some (.int .i64 0) := A2_1.c 1 (of_decide_eq_true rfl)
                      have gz_1 := A2_1.f 1 (of_decide_eq_true rfl)
                      have cz_2 : w1.cell? ⟨(w.heap.size + 1 + 1), 2, none⟩ = some (.int .i64 0) := A2_1.c 2 (of_decide_eq_true rfl)
                      have gz_2 := A2_1.f 2 (of_decide_eq_true rfl)
                      have cz_3 : w1.cell? ⟨(w.heap.size + 1 + 1), 3, none⟩ = some (.int .i64 0) := A2_1.c 3 (of_decide_eq_true rfl)
                      have gz_3 := A2_1.f 3 (of_decide_eq_true rfl)
                      have cz_4 : w1.cell? ⟨(w.heap.size + 1 + 1), 4, none⟩ = some (.int .i64 0) := A2_1.c 4 (of_decide_eq_true rfl)
                      have gz_4 := A2_1.f 4 (of_decide_eq_true rfl)
                      have cz_5 : w1.cell? ⟨(w.heap.size + 1 + 1), 5, none⟩ = some (.int .i64 0) := A2_1.c 5 (of_decide_eq_true rfl)
                      have gz_5 := A2_1.f 5 (of_decide_eq_true rfl)
                      have zz1 := A2_1.lies
                      go_wp2_with fail
                      refine (to_any 2 (f) _).mono ?_
                      rintro e w2 ⟨rfl, b2⟩
                      have A0_2 : Arr w.heap.size [.int .i64 1, .int .i64 c, .int .i64 (cntS g true), .int .i64 i, .int .i64 l, .int .i64 f] w2 := (A0_1.put 2 (of_decide_eq_true rfl) (.int .i64 (cntS g true)) [.int .i64 1, .int .i64 c, .int .i64 (cntS g true), .int .i64 i, .int .i64 l, .int .i64 f] rfl).below b2
                      have A1_2 : Arr (w.heap.size + 1) [.bool false, .bool true, .bool true, .bool true, .bool true, .bool bad, .bool pass, .int .i64 o] w2 := (A1_1.new w.heap.size 2 (by omega) (.int .i64 (cntS g true))).below b2
                      have A2_2 : Arr (w.heap.size + 1 + 1) [.int .i64 0, .int .i64 0, .int .i64 0, .int .i64 0, .int .i64 0, .int .i64 0] w2 := (A2_1.new w.heap.size 2 (by omega) (.int .i64 (cntS g true))).below b2
                      have K2 : Below w.heap.size w w2 := bel_then (bel_new K1 w.heap.size 2 (by omega) (.int .i64 (cntS g true))) b2
                      clear A0_1 A1_1 A2_1 K1 cp_0 gp_0 cp_1 gp_1 cp_2 gp_2 cp_3 gp_3 cp_4 gp_4 cp_5 gp_5 cs_0 cs_1 cs_2 cs_3 cs_4 cs_5 cs_6 cs_7 cz_0 gz_0 cz_1 gz_1 cz_2 gz_2 cz_3 gz_3 cz_4 gz_4 cz_5 gz_5 zz1
                      clear b2
                      have cp_0 : w2.cell? ⟨w.heap.size, 0, none⟩ = some (.int .i64 1) := A0_2.c 0 (of_decide_eq_true rfl)
                      have gp_0 := A0_2.f 0 (of_decide_eq_true rfl)
                      have cp_1 : w2.cell? ⟨w.heap.size, 1, none⟩ = some (.int .i64 c) := A0_2.c 1 (of_decide_eq_true rfl)
                      have gp_1 := A0_2.f 1 (of_decide_eq_true rfl)
                      have cp_2 : w2.cell? ⟨w.heap.size, 2, none⟩ = some (.int .i64 (cntS g true)) := A0_2.c 2 (of_decide_eq_true rfl)
                      have gp_2 := A0_2.f 2 (of_decide_eq_true rfl)
                      have cp_3 : w2.cell? ⟨w.heap.size, 3, none⟩ = some (.int .i64 i) := A0_2.c 3 (of_decide_eq_true rfl)
                      have gp_3 := A0_2.f 3 (of_decide_eq_true rfl)
                      have cp_4 : w2.cell? ⟨w.heap.size, 4, none⟩ = some (.int .i64 l) := A0_2.c 4 (of_decide_eq_true rfl)
                      have gp_4 := A0_2.f 4 (of_decide_eq_true rfl)
                      have cp_5 : w2.cell? ⟨w.heap.size, 5, none⟩ = some (.int .i64 f) := A0_2.c 5 (of_decide_eq_true rfl)
                      have gp_5 := A0_2.f 5 (of_decide_eq_true rfl)
                      have cs_0 : w2.cell? ⟨(w.heap.size + 1), 0, none⟩ = some (.bool false) := A1_2.c 0 (of_decide_eq_true rfl)
                      have cs_1 : w2.cell? ⟨(w.heap.size + 1), 1, none⟩ = some (.bool true) := A1_2.c 1 (of_decide_eq_true rfl)
                      have cs_2 : w2.cell? ⟨(w.heap.size + 1), 2, none⟩ = some (.bool true) := A1_2.c 2 (of_decide_eq_true rfl)
                      have cs_3 : w2.cell? ⟨(w.heap.size + 1), 3, none⟩ = some (.bool true) := A1_2.c 3 (of_decide_eq_true rfl)
                      have cs_4 : w2.cell? ⟨(w.heap.size + 1), 4, none⟩ = some (.bool true) := A1_2.c 4 (of_decide_eq_true rfl)
                      have cs_5 : w2.cell? ⟨(w.heap.size + 1), 5, none⟩ = some (.bool bad) := A1_2.c 5 (of_decide_eq_true rfl)
                      have cs_6 : w2.cell? ⟨(w.heap.size + 1), 6, none⟩ = some (.bool pass) := A1_2.c 6 (of_decide_eq_true rfl)
                      have cs_7 : w2.cell? ⟨(w.heap.size + 1), 7, none⟩ = some (.int .i64 o) := A1_2.c 7 (of_decide_eq_true rfl)
                      have cz_0 : w2.cell? ⟨(w.heap.size + 1 + 1), 0, none⟩ = some (.int .i64 0) := A2_2.c 0 (of_decide_eq_true rfl)
                      have gz_0 := A2_2.f 0 (of_decide_eq_true rfl)
                      have cz_1 : w2.cell? ⟨(w.heap.size + 1 + 1), 1, none⟩ = some (.int .i64 0) := A2_2.c 1 (of_decide_eq_true rfl)
                      have gz_1 := A2_2.f 1 (of_decide_eq_true rfl)
                      have cz_2 : w2.cell? ⟨(w.heap.size + 1 + 1), 2, none⟩ = some (.int .i64 0) := A2_2.c 2 (of_decide_eq_true rfl)
                      have gz_2 := A2_2.f 2 (of_decide_eq_true rfl)
                      have cz_3 : w2.cell? ⟨(w.heap.size + 1 + 1), 3, none⟩ = some (.int .i64 0) := A2_2.c 3 (of_decide_eq_true rfl)
                      have gz_3 := A2_2.f 3 (of_decide_eq_true rfl)
                      have cz_4 : w2.cell? ⟨(w.heap.size + 1 + 1), 4, none⟩ = some (.int .i64 0) := A2_2.c 4 (of_decide_eq_true rfl)
                      have gz_4 := A2_2.f 4 (of_decide_eq_true rfl)
                      have cz_5 : w2.cell? ⟨(w.heap.size + 1 + 1), 5, none⟩ = some (.int .i64 0) := A2_2.c 5 (of_decide_eq_true rfl)
                      have gz_5 := A2_2.f 5 (of_decide_eq_true rfl)
                      have zz2 := A2_2.lies
                      go_wp2_with (with_reducible refine post_stop ?_)
                      have A9 := ((((((A2_2.put 0 (of_decide_eq_true rfl) (.int .i64 2) [.int .i64 2, .int .i64 0, .int .i64 0, .int .i64 0, .int .i64 0, .int .i64 0] rfl).put 1 (of_decide_eq_true rfl) (.int .i64 0) [.int .i64 2, .int .i64 0, .int .i64 0, .int .i64 0, .int .i64 0, .int .i64 0] rfl).put 2 (of_decide_eq_true rfl) (.int .i64 0) [.int .i64 2, .int .i64 0, .int .i64 0, .int .i64 0, .int .i64 0, .int .i64 0] rfl).put 3 (of_decide_eq_true rfl) (.int .i64 0) [.int .i64 2, .int .i64 0, .int .i64 0, .int .i64 0, .int .i64 0, .int .i64 0] rfl).put 4 (of_decide_eq_true rfl) (.int .i64 0) [.int .i64 2, .int .i64 0, .int .i64 0, .int .i64 0, .int .i64 0, .int .i64 0] rfl).put 5 (of_decide_eq_true rfl) (.int .i64 f) [.int .i64 2, .int .i64 0, .int .i64 0, .int .i64 0, .int .i64 0, .int .i64 f] rfl)
                      have K9 := (bel_new (bel_new (bel_new (bel_new (bel_new (bel_new K2 (w.heap.size + 1 + 1) 0 (by omega) (.int .i64 2)) (w.heap.size + 1 + 1) 1 (by omega) (.int .i64 0)) (w.heap.size + 1 + 1) 2 (by omega) (.int .i64 0)) (w.heap.size + 1 + 1) 3 (by omega) (.int .i64 0)) (w.heap.size + 1 + 1) 4 (by omega) (.int .i64 0)) (w.heap.size + 1 + 1) 5 (by omega) (.int .i64 f))
                      clear cp_0 gp_0 cp_1 gp_1 cp_2 gp_2 cp_3 gp_3 cp_4 gp_4 cp_5 gp_5 cs_0 cs_1 cs_2 cs_3 cs_4 cs_5 cs_6 cs_7 cz_0 gz_0 cz_1 gz_1 cz_2 gz_2 cz_3 gz_3 cz_4 gz_4 cz_5 gz_5
                      exact ⟨bodyPost_ret (v := .agg #[.int .i64 2, .int .i64 0, .int .i64 0, .int .i64 0, .int .i64 0, .int .i64 f]) (results_arr Try.results10 A9 rfl (by kernel_rfl) (by kernel_rfl)) rfl ⟨by rw [HS.out], K9⟩⟩
                    · have HS : Hid (plV (nextS ⟨1, c, g, i, l, f⟩ ⟨false, true, true, true, true, bad, pass, o⟩) = .agg #[.int .i64 1, .int .i64 c, .int .i64 (cntS g true), .int .i64 i, .int .i64 l, .int .i64 f]) := by show plV _ = _; first | exact congrArg plV (((if_neg ho).trans ((if_neg (show ¬ (1 : Int) = 3 by decide)).trans ((if_neg (show ¬ (1 : Int) = 0 by decide)).trans (if_pos rfl)))).trans (if_neg t)) | rfl | exact congrArg plV (if_neg ho) | exact congrArg plV (if_neg t) | exact congrArg plV (if_neg u) | exact congrArg plV (if_pos u)
                      go_enter Try.func10, Try.ntmps10
                      go_wp2_with fail
                      refine (count_any g _ hg).mono ?_
                      rintro e w1 ⟨rfl, b1⟩
                      have A0_1 : Arr w.heap.size [.int .i64 1, .int .i64 c, .int .i64 g, .int .i64 i, .int .i64 l, .int .i64 f] w1 := (((Arr_at _ w.heap.size [.int .i64 1, .int .i64 c, .int .i64 g, .int .i64 i, .int .i64 l, .int .i64 f] 23 (by simp)).alloc _).alloc _).below b1
                      have A1_1 : Arr (w.heap.size + 1) [.bool false, .bool true, .bool true, .bool true, .bool true, .bool bad, .bool pass, .int .i64 o] w1 := ((Arr_at _ (w.heap.size + 1) [.bool false, .bool true, .bool true, .bool true, .bool true, .bool bad, .bool pass, .int .i64 o] 25 (by simp)).alloc _).below b1
                      have A2_1 : Arr (w.heap.size + 1 + 1) [.int .i64 0, .int .i64 0, .int .i64 0, .int .i64 0, .int .i64 0, .int .i64 0] w1 := (Arr_at _ (w.heap.size + 1 + 1) [.int .i64 0, .int .i64 0, .int .i64 0, .int .i64 0, .int .i64 0, .int .i64 0] 23 (by simp)).below b1
                      have K1 : Below w.heap.size w w1 := bel_then (bel_al (bel_al (bel_al (Below.refl w.heap.size w) _) _) _) b1
                      clear b1
                      have cp_0 : w1.cell? ⟨w.heap.size, 0, none⟩ = some (.int .i64 1) := A0_1.c 0 (of_decide_eq_true rfl)
                      have gp_0 := A0_1.f 0 (of_decide_eq_true rfl)
                      have cp_1 : w1.cell? ⟨w.heap.size, 1, none⟩ = some (.int .i64 c) := A0_1.c 1 (of_decide_eq_true rfl)
                      have gp_1 := A0_1.f 1 (of_decide_eq_true rfl)
                      have cp_2 : w1.cell? ⟨w.heap.size, 2, none⟩ = some (.int .i64 g) := A0_1.c 2 (of_decide_eq_true rfl)
                      have gp_2 := A0_1.f 2 (of_decide_eq_true rfl)
                      have cp_3 : w1.cell? ⟨w.heap.size, 3, none⟩ = some (.int .i64 i) := A0_1.c 3 (of_decide_eq_true rfl)
                      have gp_3 := A0_1.f 3 (of_decide_eq_true rfl)
                      have cp_4 : w1.cell? ⟨w.heap.size, 4, none⟩ = some (.int .i64 l) := A0_1.c 4 (of_decide_eq_true rfl)
                      have gp_4 := A0_1.f 4 (of_decide_eq_true rfl)
                      have cp_5 : w1.cell? ⟨w.heap.size, 5, none⟩ = some (.int .i64 f) := A0_1.c 5 (of_decide_eq_true rfl)
                      have gp_5 := A0_1.f 5 (of_decide_eq_true rfl)
                      have cs_0 : w1.cell? ⟨(w.heap.size + 1), 0, none⟩ = some (.bool false) := A1_1.c 0 (of_decide_eq_true rfl)
                      have cs_1 : w1.cell? ⟨(w.heap.size + 1), 1, none⟩ = some (.bool true) := A1_1.c 1 (of_decide_eq_true rfl)
                      have cs_2 : w1.cell? ⟨(w.heap.size + 1), 2, none⟩ = some (.bool true) := A1_1.c 2 (of_decide_eq_true rfl)
                      have cs_3 : w1.cell? ⟨(w.heap.size + 1), 3, none⟩ = some (.bool true) := A1_1.c 3 (of_decide_eq_true rfl)
                      have cs_4 : w1.cell? ⟨(w.heap.size + 1), 4, none⟩ = some (.bool true) := A1_1.c 4 (of_decide_eq_true rfl)
                      have cs_5 : w1.cell? ⟨(w.heap.size + 1), 5, none⟩ = some (.bool bad) := A1_1.c 5 (of_decide_eq_true rfl)
                      have cs_6 : w1.cell? ⟨(w.heap.size + 1), 6, none⟩ = some (.bool pass) := A1_1.c 6 (of_decide_eq_true rfl)
                      have cs_7 : w1.cell? ⟨(w.heap.size + 1), 7, none⟩ = some (.int .i64 o) := A1_1.c 7 (of_decide_eq_true rfl)
                      have cz_0 : w1.cell? ⟨(w.heap.size + 1 + 1), 0, none⟩ = some (.int .i64 0) := A2_1.c 0 (of_decide_eq_true rfl)
                      have gz_0 := A2_1.f 0 (of_decide_eq_true rfl)
                      have cz_1 : w1.cell? ⟨(w.heap.size + 1 + 1), 1, none⟩ = some (.int .i64 0) := A2_1.c 1 (of_decide_eq_true rfl)
                      have gz_1 := A2_1.f 1 (of_decide_eq_true rfl)
                      have cz_2 : w1.cell? ⟨(w.heap.size + 1 + 1), 2, none⟩ = some (.int .i64 0) := A2_1.c 2 (of_decide_eq_true rfl)
                      have gz_2 := A2_1.f 2 (of_decide_eq_true rfl)
                      have cz_3 : w1.cell? ⟨(w.heap.size + 1 + 1), 3, none⟩ = some (.int .i64 0) := A2_1.c 3 (of_decide_eq_true rfl)
                      have gz_3 := A2_1.f 3 (of_decide_eq_true rfl)
                      have cz_4 : w1.cell? ⟨(w.heap.size + 1 + 1), 4, none⟩ = some (.int .i64 0) := A2_1.c 4 (of_decide_eq_true rfl)
                      have gz_4 := A2_1.f 4 (of_decide_eq_true rfl)
                      have cz_5 : w1.cell? ⟨(w.heap.size + 1 + 1), 5, none⟩ = some (.int .i64 0) := A2_1.c 5 (of_decide_eq_true rfl)
                      have gz_5 := A2_1.f 5 (of_decide_eq_true rfl)
                      have zz1 := A2_1.lies
                      go_wp2_with (with_reducible refine post_stop ?_)
                      have A9 := (((((((A2_1.new w.heap.size 2 (by omega) (.int .i64 (cntS g true))).put 0 (of_decide_eq_true rfl) (.int .i64 1) [.int .i64 1, .int .i64 0, .int .i64 0, .int .i64 0, .int .i64 0, .int .i64 0] rfl).put 1 (of_decide_eq_true rfl) (.int .i64 c) [.int .i64 1, .int .i64 c, .int .i64 0, .int .i64 0, .int .i64 0, .int .i64 0] rfl).put 2 (of_decide_eq_true rfl) (.int .i64 (cntS g true)) [.int .i64 1, .int .i64 c, .int .i64 (cntS g true), .int .i64 0, .int .i64 0, .int .i64 0] rfl).put 3 (of_decide_eq_true rfl) (.int .i64 i) [.int .i64 1, .int .i64 c, .int .i64 (cntS g true), .int .i64 i, .int .i64 0, .int .i64 0] rfl).put 4 (of_decide_eq_true rfl) (.int .i64 l) [.int .i64 1, .int .i64 c, .int .i64 (cntS g true), .int .i64 i, .int .i64 l, .int .i64 0] rfl).put 5 (of_decide_eq_true rfl) (.int .i64 f) [.int .i64 1, .int .i64 c, .int .i64 (cntS g true), .int .i64 i, .int .i64 l, .int .i64 f] rfl)
                      have K9 := (bel_new (bel_new (bel_new (bel_new (bel_new (bel_new (bel_new K1 w.heap.size 2 (by omega) (.int .i64 (cntS g true))) (w.heap.size + 1 + 1) 0 (by omega) (.int .i64 1)) (w.heap.size + 1 + 1) 1 (by omega) (.int .i64 c)) (w.heap.size + 1 + 1) 2 (by omega) (.int .i64 (cntS g true))) (w.heap.size + 1 + 1) 3 (by omega) (.int .i64 i)) (w.heap.size + 1 + 1) 4 (by omega) (.int .i64 l)) (w.heap.size + 1 + 1) 5 (by omega) (.int .i64 f))
                      clear cp_0 gp_0 cp_1 gp_1 cp_2 gp_2 cp_3 gp_3 cp_4 gp_4 cp_5 gp_5 cs_0 cs_1 cs_2 cs_3 cs_4 cs_5 cs_6 cs_7 cz_0 gz_0 cz_1 gz_1 cz_2 gz_2 cz_3 gz_3 cz_4 gz_4 cz_5 gz_5
                      exact ⟨bodyPost_ret (v := .agg #[.int .i64 1, .int .i64 c, .int .i64 (cntS g true), .int .i64 i, .int .i64 l, .int .i64 f]) (results_arr Try.results10 A9 rfl (by kernel_rfl) (by kernel_rfl)) rfl ⟨by rw [HS.out], K9⟩⟩
          · have HS : Hid (plV (nextS ⟨1, c, g, i, l, f⟩ ⟨true, gyro, slow, pair, lit, bad, pass, o⟩) = .agg #[.int .i64 1, .int .i64 0, .int .i64 0, .int .i64 0, .int .i64 0, .int .i64 (bits .or .i64 f 1)]) := by show plV _ = _; first | exact congrArg plV ((if_neg ho).trans ((if_neg (show ¬ (1 : Int) = 3 by decide)).trans ((if_neg (show ¬ (1 : Int) = 0 by decide)).trans (if_pos rfl)))) | rfl | exact congrArg plV (if_neg ho) | exact congrArg plV (if_neg t) | exact congrArg plV (if_neg u) | exact congrArg plV (if_pos u)
            go_enter Try.func10, Try.ntmps10
            go_wp2_with fail
            refine (to_any 1 (bits .or .i64 f 1) _).mono ?_
            rintro e w1 ⟨rfl, b1⟩
            have A0_1 : Arr w.heap.size [.int .i64 1, .int .i64 c, .int .i64 g, .int .i64 i, .int .i64 l, .int .i64 f] w1 := (((Arr_at _ w.heap.size [.int .i64 1, .int .i64 c, .int .i64 g, .int .i64 i, .int .i64 l, .int .i64 f] 23 (by simp)).alloc _).alloc _).below b1
            have A1_1 : Arr (w.heap.size + 1) [.bool true, .bool gyro, .bool slow, .bool pair, .bool lit, .bool bad, .bool pass, .int .i64 o] w1 := ((Arr_at _ (w.heap.size + 1) [.bool true, .bool gyro, .bool slow, .bool pair, .bool lit, .bool bad, .bool pass, .int .i64 o] 25 (by simp)).alloc _).below b1
            have A2_1 : Arr (w.heap.size + 1 + 1) [.int .i64 0, .int .i64 0, .int .i64 0, .int .i64 0, .int .i64 0, .int .i64 0] w1 := (Arr_at _ (w.heap.size + 1 + 1) [.int .i64 0, .int .i64 0, .int .i64 0, .int .i64 0, .int .i64 0, .int .i64 0] 23 (by simp)).below b1
            have K1 : Below w.heap.size w w1 := bel_then (bel_al (bel_al (bel_al (Below.refl w.heap.size w) _) _) _) b1
            clear b1
            have cp_0 : w1.cell? ⟨w.heap.size, 0, none⟩ = some (.int .i64 1) := A0_1.c 0 (of_decide_eq_true rfl)
            have gp_0 := A0_1.f 0 (of_decide_eq_true rfl)
            have cp_1 : w1.cell? ⟨w.heap.size, 1, none⟩ = some (.int .i64 c) := A0_1.c 1 (of_decide_eq_true rfl)
            have gp_1 := A0_1.f 1 (of_decide_eq_true rfl)
            have cp_2 : w1.cell? ⟨w.heap.size, 2, none⟩ = some (.int .i64 g) := A0_1.c 2 (of_decide_eq_true rfl)
            have gp_2 := A0_1.f 2 (of_decide_eq_true rfl)
            have cp_3 : w1.cell? ⟨w.heap.size, 3, none⟩ = some (.int .i64 i) := A0_1.c 3 (of_decide_eq_true rfl)
            have gp_3 := A0_1.f 3 (of_decide_eq_true rfl)
            have cp_4 : w1.cell? ⟨w.heap.size, 4, none⟩ = some (.int .i64 l) := A0_1.c 4 (of_decide_eq_true rfl)
            have gp_4 := A0_1.f 4 (of_decide_eq_true rfl)
            have cp_5 : w1.cell? ⟨w.heap.size, 5, none⟩ = some (.int .i64 f) := A0_1.c 5 (of_decide_eq_true rfl)
            have gp_5 := A0_1.f 5 (of_decide_eq_true rfl)
            have cs_0 : w1.cell? ⟨(w.heap.size + 1), 0, none⟩ = some (.bool true) := A1_1.c 0 (of_decide_eq_true rfl)
            have cs_1 : w1.cell? ⟨(w.heap.size + 1), 1, none⟩ = some (.bool gyro) := A1_1.c 1 (of_decide_eq_true rfl)
            have cs_2 : w1.cell? ⟨(w.heap.size + 1), 2, none⟩ = some (.bool slow) := A1_1.c 2 (of_decide_eq_true rfl)
            have cs_3 : w1.cell? ⟨(w.heap.size + 1), 3, none⟩ = some (.bool pair) := A1_1.c 3 (of_decide_eq_true rfl)
            have cs_4 : w1.cell? ⟨(w.heap.size + 1), 4, none⟩ = some (.bool lit) := A1_1.c 4 (of_decide_eq_true rfl)
            have cs_5 : w1.cell? ⟨(w.heap.size + 1), 5, none⟩ = some (.bool bad) := A1_1.c 5 (of_decide_eq_true rfl)
            have cs_6 : w1.cell? ⟨(w.heap.size + 1), 6, none⟩ = some (.bool pass) := A1_1.c 6 (of_decide_eq_true rfl)
            have cs_7 : w1.cell? ⟨(w.heap.size + 1), 7, none⟩ = some (.int .i64 o) := A1_1.c 7 (of_decide_eq_true rfl)
            have cz_0 : w1.cell? ⟨(w.heap.size + 1 + 1), 0, none⟩ = some (.int .i64 0) := A2_1.c 0 (of_decide_eq_true rfl)
            have gz_0 := A2_1.f 0 (of_decide_eq_true rfl)
            have cz_1 : w1.cell? ⟨(w.heap.size + 1 + 1), 1, none⟩ = some (.int .i64 0) := A2_1.c 1 (of_decide_eq_true rfl)
            have gz_1 := A2_1.f 1 (of_decide_eq_true rfl)
            have cz_2 : w1.cell? ⟨(w.heap.size + 1 + 1), 2, none⟩ = some (.int .i64 0) := A2_1.c 2 (of_decide_eq_true rfl)
            have gz_2 := A2_1.f 2 (of_decide_eq_true rfl)
            have cz_3 : w1.cell? ⟨(w.heap.size + 1 + 1), 3, none⟩ = some (.int .i64 0) := A2_1.c 3 (of_decide_eq_true rfl)
            have gz_3 := A2_1.f 3 (of_decide_eq_true rfl)
            have cz_4 : w1.cell? ⟨(w.heap.size + 1 + 1), 4, none⟩ = some (.int .i64 0) := A2_1.c 4 (of_decide_eq_true rfl)
            have gz_4 := A2_1.f 4 (of_decide_eq_true rfl)
            have cz_5 : w1.cell? ⟨(w.heap.size + 1 + 1), 5, none⟩ = some (.int .i64 0) := A2_1.c 5 (of_decide_eq_true rfl)
            have gz_5 := A2_1.f 5 (of_decide_eq_true rfl)
            have zz1 := A2_1.lies
            go_wp2_with (with_reducible refine post_stop ?_)
            have A9 := ((((((A2_1.put 0 (of_decide_eq_true rfl) (.int .i64 1) [.int .i64 1, .int .i64 0, .int .i64 0, .int .i64 0, .int .i64 0, .int .i64 0] rfl).put 1 (of_decide_eq_true rfl) (.int .i64 0) [.int .i64 1, .int .i64 0, .int .i64 0, .int .i64 0, .int .i64 0, .int .i64 0] rfl).put 2 (of_decide_eq_true rfl) (.int .i64 0) [.int .i64 1, .int .i64 0, .int .i64 0, .int .i64 0, .int .i64 0, .int .i64 0] rfl).put 3 (of_decide_eq_true rfl) (.int .i64 0) [.int .i64 1, .int .i64 0, .int .i64 0, .int .i64 0, .int .i64 0, .int .i64 0] rfl).put 4 (of_decide_eq_true rfl) (.int .i64 0) [.int .i64 1, .int .i64 0, .int .i64 0, .int .i64 0, .int .i64 0, .int .i64 0] rfl).put 5 (of_decide_eq_true rfl) (.int .i64 (bits .or .i64 f 1)) [.int .i64 1, .int .i64 0, .int .i64 0, .int .i64 0, .int .i64 0, .int .i64 (bits .or .i64 f 1)] rfl)
            have K9 := (bel_new (bel_new (bel_new (bel_new (bel_new (bel_new K1 (w.heap.size + 1 + 1) 0 (by omega) (.int .i64 1)) (w.heap.size + 1 + 1) 1 (by omega) (.int .i64 0)) (w.heap.size + 1 + 1) 2 (by omega) (.int .i64 0)) (w.heap.size + 1 + 1) 3 (by omega) (.int .i64 0)) (w.heap.size + 1 + 1) 4 (by omega) (.int .i64 0)) (w.heap.size + 1 + 1) 5 (by omega) (.int .i64 (bits .or .i64 f 1)))
            clear cp_0 gp_0 cp_1 gp_1 cp_2 gp_2 cp_3 gp_3 cp_4 gp_4 cp_5 gp_5 cs_0 cs_1 cs_2 cs_3 cs_4 cs_5 cs_6 cs_7 cz_0 gz_0 cz_1 gz_1 cz_2 gz_2 cz_3 gz_3 cz_4 gz_4 cz_5 gz_5
            exact ⟨bodyPost_ret (v := .agg #[.int .i64 1, .int .i64 0, .int .i64 0, .int .i64 0, .int .i64 0, .int .i64 (bits .or .i64 f 1)]) (results_arr Try.results10 A9 rfl (by kernel_rfl) (by kernel_rfl)) rfl ⟨by rw [HS.out], K9⟩⟩
        · by_cases h2 : m = 2
          · subst h2
            obtain ⟨q, hq⟩ : ∃ q, q = rfinS ⟨2, c, g, i, l, f⟩ ⟨gap, gyro, slow, pair, lit, bad, pass, o⟩ := ⟨_, rfl⟩
            have hk := fun W => rfine_any c g i l f gap gyro slow pair lit bad pass o W hl hi
            rw [← hq] at hk
            have HS : Hid (plV (nextS ⟨2, c, g, i, l, f⟩ ⟨gap, gyro, slow, pair, lit, bad, pass, o⟩) = plV q) := by rw [hq]; exact congrArg plV ((if_neg ho).trans ((if_neg (show ¬ (2 : Int) = 3 by decide)).trans ((if_neg (show ¬ (2 : Int) = 0 by decide)).trans ((if_neg (show ¬ (2 : Int) = 1 by decide)).trans (if_pos rfl)))))
            clear hq
            obtain ⟨m1, c1, g1, i1, l1, f1⟩ := q
            unfold plV at hk
            replace HS : Hid (plV (nextS ⟨2, c, g, i, l, f⟩ ⟨gap, gyro, slow, pair, lit, bad, pass, o⟩) = .agg #[.int .i64 m1, .int .i64 c1, .int .i64 g1, .int .i64 i1, .int .i64 l1, .int .i64 f1]) := HS
            go_enter Try.func10, Try.ntmps10
            go_wp2_with fail
            refine (hk _).mono ?_
            rintro e w1 ⟨rfl, b1⟩
            have A0_1 : Arr w.heap.size [.int .i64 2, .int .i64 c, .int .i64 g, .int .i64 i, .int .i64 l, .int .i64 f] w1 := (((Arr_at _ w.heap.size [.int .i64 2, .int .i64 c, .int .i64 g, .int .i64 i, .int .i64 l, .int .i64 f] 23 (by simp)).alloc _).alloc _).below b1
            have A1_1 : Arr (w.heap.size + 1) [.bool gap, .bool gyro, .bool slow, .bool pair, .bool lit, .bool bad, .bool pass, .int .i64 o] w1 := ((Arr_at _ (w.heap.size + 1) [.bool gap, .bool gyro, .bool slow, .bool pair, .bool lit, .bool bad, .bool pass, .int .i64 o] 25 (by simp)).alloc _).below b1
            have A2_1 : Arr (w.heap.size + 1 + 1) [.int .i64 0, .int .i64 0, .int .i64 0, .int .i64 0, .int .i64 0, .int .i64 0] w1 := (Arr_at _ (w.heap.size + 1 + 1) [.int .i64 0, .int .i64 0, .int .i64 0, .int .i64 0, .int .i64 0, .int .i64 0] 23 (by simp)).below b1
            have K1 : Below w.heap.size w w1 := bel_then (bel_al (bel_al (bel_al (Below.refl w.heap.size w) _) _) _) b1
            clear b1
            have cp_0 : w1.cell? ⟨w.heap.size, 0, none⟩ = some (.int .i64 2) := A0_1.c 0 (of_decide_eq_true rfl)
            have gp_0 := A0_1.f 0 (of_decide_eq_true rfl)
            have cp_1 : w1.cell? ⟨w.heap.size, 1, none⟩ = some (.int .i64 c) := A0_1.c 1 (of_decide_eq_true rfl)
            have gp_1 := A0_1.f 1 (of_decide_eq_true rfl)
            have cp_2 : w1.cell? ⟨w.heap.size, 2, none⟩ = some (.int .i64 g) := A0_1.c 2 (of_decide_eq_true rfl)
            have gp_2 := A0_1.f 2 (of_decide_eq_true rfl)
            have cp_3 : w1.cell? ⟨w.heap.size, 3, none⟩ = some (.int .i64 i) := A0_1.c 3 (of_decide_eq_true rfl)
            have gp_3 := A0_1.f 3 (of_decide_eq_true rfl)
            have cp_4 : w1.cell? ⟨w.heap.size, 4, none⟩ = some (.int .i64 l) := A0_1.c 4 (of_decide_eq_true rfl)
            have gp_4 := A0_1.f 4 (of_decide_eq_true rfl)
            have cp_5 : w1.cell? ⟨w.heap.size, 5, none⟩ = some (.int .i64 f) := A0_1.c 5 (of_decide_eq_true rfl)
            have gp_5 := A0_1.f 5 (of_decide_eq_true rfl)
            have cs_0 : w1.cell? ⟨(w.heap.size + 1), 0, none⟩ = some (.bool gap) := A1_1.c 0 (of_decide_eq_true rfl)
            have cs_1 : w1.cell? ⟨(w.heap.size + 1), 1, none⟩ = some (.bool gyro) := A1_1.c 1 (of_decide_eq_true rfl)
            have cs_2 : w1.cell? ⟨(w.heap.size + 1), 2, none⟩ = some (.bool slow) := A1_1.c 2 (of_decide_eq_true rfl)
            have cs_3 : w1.cell? ⟨(w.heap.size + 1), 3, none⟩ = some (.bool pair) := A1_1.c 3 (of_decide_eq_true rfl)
            have cs_4 : w1.cell? ⟨(w.heap.size + 1), 4, none⟩ = some (.bool lit) := A1_1.c 4 (of_decide_eq_true rfl)
            have cs_5 : w1.cell? ⟨(w.heap.size + 1), 5, none⟩ = some (.bool bad) := A1_1.c 5 (of_decide_eq_true rfl)
            have cs_6 : w1.cell? ⟨(w.heap.size + 1), 6, none⟩ = some (.bool pass) := A1_1.c 6 (of_decide_eq_true rfl)
            have cs_7 : w1.cell? ⟨(w.heap.size + 1), 7, none⟩ = some (.int .i64 o) := A1_1.c 7 (of_decide_eq_true rfl)
            have cz_0 : w1.cell? ⟨(w.heap.size + 1 + 1), 0, none⟩ = some (.int .i64 0) := A2_1.c 0 (of_decide_eq_true rfl)
            have gz_0 := A2_1.f 0 (of_decide_eq_true rfl)
            have cz_1 : w1.cell? ⟨(w.heap.size + 1 + 1), 1, none⟩ = some (.int .i64 0) := A2_1.c 1 (of_decide_eq_true rfl)
            have gz_1 := A2_1.f 1 (of_decide_eq_true rfl)
            have cz_2 : w1.cell? ⟨(w.heap.size + 1 + 1), 2, none⟩ = some (.int .i64 0) := A2_1.c 2 (of_decide_eq_true rfl)
            have gz_2 := A2_1.f 2 (of_decide_eq_true rfl)
            have cz_3 : w1.cell? ⟨(w.heap.size + 1 + 1), 3, none⟩ = some (.int .i64 0) := A2_1.c 3 (of_decide_eq_true rfl)
            have gz_3 := A2_1.f 3 (of_decide_eq_true rfl)
            have cz_4 : w1.cell? ⟨(w.heap.size + 1 + 1), 4, none⟩ = some (.int .i64 0) := A2_1.c 4 (of_decide_eq_true rfl)
            have gz_4 := A2_1.f 4 (of_decide_eq_true rfl)
            have cz_5 : w1.cell? ⟨(w.heap.size + 1 + 1), 5, none⟩ = some (.int .i64 0) := A2_1.c 5 (of_decide_eq_true rfl)
            have gz_5 := A2_1.f 5 (of_decide_eq_true rfl)
            have zz1 := A2_1.lies
            go_wp2_with (with_reducible refine post_stop ?_)
            have A9 := ((((((A2_1.put 0 (of_decide_eq_true rfl) (.int .i64 m1) [.int .i64 m1, .int .i64 0, .int .i64 0, .int .i64 0, .int .i64 0, .int .i64 0] rfl).put 1 (of_decide_eq_true rfl) (.int .i64 c1) [.int .i64 m1, .int .i64 c1, .int .i64 0, .int .i64 0, .int .i64 0, .int .i64 0] rfl).put 2 (of_decide_eq_true rfl) (.int .i64 g1) [.int .i64 m1, .int .i64 c1, .int .i64 g1, .int .i64 0, .int .i64 0, .int .i64 0] rfl).put 3 (of_decide_eq_true rfl) (.int .i64 i1) [.int .i64 m1, .int .i64 c1, .int .i64 g1, .int .i64 i1, .int .i64 0, .int .i64 0] rfl).put 4 (of_decide_eq_true rfl) (.int .i64 l1) [.int .i64 m1, .int .i64 c1, .int .i64 g1, .int .i64 i1, .int .i64 l1, .int .i64 0] rfl).put 5 (of_decide_eq_true rfl) (.int .i64 f1) [.int .i64 m1, .int .i64 c1, .int .i64 g1, .int .i64 i1, .int .i64 l1, .int .i64 f1] rfl)
            have K9 := (bel_new (bel_new (bel_new (bel_new (bel_new (bel_new K1 (w.heap.size + 1 + 1) 0 (by omega) (.int .i64 m1)) (w.heap.size + 1 + 1) 1 (by omega) (.int .i64 c1)) (w.heap.size + 1 + 1) 2 (by omega) (.int .i64 g1)) (w.heap.size + 1 + 1) 3 (by omega) (.int .i64 i1)) (w.heap.size + 1 + 1) 4 (by omega) (.int .i64 l1)) (w.heap.size + 1 + 1) 5 (by omega) (.int .i64 f1))
            clear cp_0 gp_0 cp_1 gp_1 cp_2 gp_2 cp_3 gp_3 cp_4 gp_4 cp_5 gp_5 cs_0 cs_1 cs_2 cs_3 cs_4 cs_5 cs_6 cs_7 cz_0 gz_0 cz_1 gz_1 cz_2 gz_2 cz_3 gz_3 cz_4 gz_4 cz_5 gz_5
            exact ⟨bodyPost_ret (v := .agg #[.int .i64 m1, .int .i64 c1, .int .i64 g1, .int .i64 i1, .int .i64 l1, .int .i64 f1]) (results_arr Try.results10 A9 rfl (by kernel_rfl) (by kernel_rfl)) rfl ⟨by rw [HS.out], K9⟩⟩
          · have HS : Hid (plV (nextS ⟨m, c, g, i, l, f⟩ ⟨gap, gyro, slow, pair, lit, bad, pass, o⟩) = .agg #[.int .i64 3, .int .i64 0, .int .i64 0, .int .i64 0, .int .i64 0, .int .i64 f]) := by show plV _ = _; first | exact congrArg plV ((if_neg ho).trans ((if_neg h3).trans ((if_neg h0).trans ((if_neg h1).trans (if_neg h2))))) | rfl | exact congrArg plV (if_neg ho) | exact congrArg plV (if_neg t) | exact congrArg plV (if_neg u) | exact congrArg plV (if_pos u)
            go_enter Try.func10, Try.ntmps10
            go_wp2_with fail
            refine (to_any 3 (f) _).mono ?_
            rintro e w1 ⟨rfl, b1⟩
            have A0_1 : Arr w.heap.size [.int .i64 m, .int .i64 c, .int .i64 g, .int .i64 i, .int .i64 l, .int .i64 f] w1 := (((Arr_at _ w.heap.size [.int .i64 m, .int .i64 c, .int .i64 g, .int .i64 i, .int .i64 l, .int .i64 f] 23 (by simp)).alloc _).alloc _).below b1
            have A1_1 : Arr (w.heap.size + 1) [.bool gap, .bool gyro, .bool slow, .bool pair, .bool lit, .bool bad, .bool pass, .int .i64 o] w1 := ((Arr_at _ (w.heap.size + 1) [.bool gap, .bool gyro, .bool slow, .bool pair, .bool lit, .bool bad, .bool pass, .int .i64 o] 25 (by simp)).alloc _).below b1
            have A2_1 : Arr (w.heap.size + 1 + 1) [.int .i64 0, .int .i64 0, .int .i64 0, .int .i64 0, .int .i64 0, .int .i64 0] w1 := (Arr_at _ (w.heap.size + 1 + 1) [.int .i64 0, .int .i64 0, .int .i64 0, .int .i64 0, .int .i64 0, .int .i64 0] 23 (by simp)).below b1
            have K1 : Below w.heap.size w w1 := bel_then (bel_al (bel_al (bel_al (Below.refl w.heap.size w) _) _) _) b1
            clear b1
            have cp_0 : w1.cell? ⟨w.heap.size, 0, none⟩ = some (.int .i64 m) := A0_1.c 0 (of_decide_eq_true rfl)
            have gp_0 := A0_1.f 0 (of_decide_eq_true rfl)
            have cp_1 : w1.cell? ⟨w.heap.size, 1, none⟩ = some (.int .i64 c) := A0_1.c 1 (of_decide_eq_true rfl)
            have gp_1 := A0_1.f 1 (of_decide_eq_true rfl)
            have cp_2 : w1.cell? ⟨w.heap.size, 2, none⟩ = some (.int .i64 g) := A0_1.c 2 (of_decide_eq_true rfl)
            have gp_2 := A0_1.f 2 (of_decide_eq_true rfl)
            have cp_3 : w1.cell? ⟨w.heap.size, 3, none⟩ = some (.int .i64 i) := A0_1.c 3 (of_decide_eq_true rfl)
            have gp_3 := A0_1.f 3 (of_decide_eq_true rfl)
            have cp_4 : w1.cell? ⟨w.heap.size, 4, none⟩ = some (.int .i64 l) := A0_1.c 4 (of_decide_eq_true rfl)
            have gp_4 := A0_1.f 4 (of_decide_eq_true rfl)
            have cp_5 : w1.cell? ⟨w.heap.size, 5, none⟩ = some (.int .i64 f) := A0_1.c 5 (of_decide_eq_true rfl)
            have gp_5 := A0_1.f 5 (of_decide_eq_true rfl)
            have cs_0 : w1.cell? ⟨(w.heap.size + 1), 0, none⟩ = some (.bool gap) := A1_1.c 0 (of_decide_eq_true rfl)
            have cs_1 : w1.cell? ⟨(w.heap.size + 1), 1, none⟩ = some (.bool gyro) := A1_1.c 1 (of_decide_eq_true rfl)
            have cs_2 : w1.cell? ⟨(w.heap.size + 1), 2, none⟩ = some (.bool slow) := A1_1.c 2 (of_decide_eq_true rfl)
            have cs_3 : w1.cell? ⟨(w.heap.size + 1), 3, none⟩ = some (.bool pair) := A1_1.c 3 (of_decide_eq_true rfl)
            have cs_4 : w1.cell? ⟨(w.heap.size + 1), 4, none⟩ = some (.bool lit) := A1_1.c 4 (of_decide_eq_true rfl)
            have cs_5 : w1.cell? ⟨(w.heap.size + 1), 5, none⟩ = some (.bool bad) := A1_1.c 5 (of_decide_eq_true rfl)
            have cs_6 : w1.cell? ⟨(w.heap.size + 1), 6, none⟩ = some (.bool pass) := A1_1.c 6 (of_decide_eq_true rfl)
            have cs_7 : w1.cell? ⟨(w.heap.size + 1), 7, none⟩ = some (.int .i64 o) := A1_1.c 7 (of_decide_eq_true rfl)
            have cz_0 : w1.cell? ⟨(w.heap.size + 1 + 1), 0, none⟩ = some (.int .i64 0) := A2_1.c 0 (of_decide_eq_true rfl)
            have gz_0 := A2_1.f 0 (of_decide_eq_true rfl)
            have cz_1 : w1.cell? ⟨(w.heap.size + 1 + 1), 1, none⟩ = some (.int .i64 0) := A2_1.c 1 (of_decide_eq_true rfl)
            have gz_1 := A2_1.f 1 (of_decide_eq_true rfl)
            have cz_2 : w1.cell? ⟨(w.heap.size + 1 + 1), 2, none⟩ = some (.int .i64 0) := A2_1.c 2 (of_decide_eq_true rfl)
            have gz_2 := A2_1.f 2 (of_decide_eq_true rfl)
            have cz_3 : w1.cell? ⟨(w.heap.size + 1 + 1), 3, none⟩ = some (.int .i64 0) := A2_1.c 3 (of_decide_eq_true rfl)
            have gz_3 := A2_1.f 3 (of_decide_eq_true rfl)
            have cz_4 : w1.cell? ⟨(w.heap.size + 1 + 1), 4, none⟩ = some (.int .i64 0) := A2_1.c 4 (of_decide_eq_true rfl)
            have gz_4 := A2_1.f 4 (of_decide_eq_true rfl)
            have cz_5 : w1.cell? ⟨(w.heap.size + 1 + 1), 5, none⟩ = some (.int .i64 0) := A2_1.c 5 (of_decide_eq_true rfl)
            have gz_5 := A2_1.f 5 (of_decide_eq_true rfl)
            have zz1 := A2_1.lies
            go_wp2_with (with_reducible refine post_stop ?_)
            have A9 := ((((((A2_1.put 0 (of_decide_eq_true rfl) (.int .i64 3) [.int .i64 3, .int .i64 0, .int .i64 0, .int .i64 0, .int .i64 0, .int .i64 0] rfl).put 1 (of_decide_eq_true rfl) (.int .i64 0) [.int .i64 3, .int .i64 0, .int .i64 0, .int .i64 0, .int .i64 0, .int .i64 0] rfl).put 2 (of_decide_eq_true rfl) (.int .i64 0) [.int .i64 3, .int .i64 0, .int .i64 0, .int .i64 0, .int .i64 0, .int .i64 0] rfl).put 3 (of_decide_eq_true rfl) (.int .i64 0) [.int .i64 3, .int .i64 0, .int .i64 0, .int .i64 0, .int .i64 0, .int .i64 0] rfl).put 4 (of_decide_eq_true rfl) (.int .i64 0) [.int .i64 3, .int .i64 0, .int .i64 0, .int .i64 0, .int .i64 0, .int .i64 0] rfl).put 5 (of_decide_eq_true rfl) (.int .i64 f) [.int .i64 3, .int .i64 0, .int .i64 0, .int .i64 0, .int .i64 0, .int .i64 f] rfl)
            have K9 := (bel_new (bel_new (bel_new (bel_new (bel_new (bel_new K1 (w.heap.size + 1 + 1) 0 (by omega) (.int .i64 3)) (w.heap.size + 1 + 1) 1 (by omega) (.int .i64 0)) (w.heap.size + 1 + 1) 2 (by omega) (.int .i64 0)) (w.heap.size + 1 + 1) 3 (by omega) (.int .i64 0)) (w.heap.size + 1 + 1) 4 (by omega) (.int .i64 0)) (w.heap.size + 1 + 1) 5 (by omega) (.int .i64 f))
            clear cp_0 gp_0 cp_1 gp_1 cp_2 gp_2 cp_3 gp_3 cp_4 gp_4 cp_5 gp_5 cs_0 cs_1 cs_2 cs_3 cs_4 cs_5 cs_6 cs_7 cz_0 gz_0 cz_1 gz_1 cz_2 gz_2 cz_3 gz_3 cz_4 gz_4 cz_5 gz_5
            exact ⟨bodyPost_ret (v := .agg #[.int .i64 3, .int .i64 0, .int .i64 0, .int .i64 0, .int .i64 0, .int .i64 f]) (results_arr Try.results10 A9 rfl (by kernel_rfl) (by kernel_rfl)) rfl ⟨by rw [HS.out], K9⟩⟩
end Go.Proofs.Ytocnaflhedccpaa
