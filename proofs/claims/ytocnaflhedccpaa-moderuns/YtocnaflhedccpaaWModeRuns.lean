/-
  ModeRuns, walked, for the seat Ytocnaflhedccpaa. (Made by mkmode.py.)
-/
import Derived.Test.YtocnaflhedccpaaWModeFine
import Derived.Test.YtocnaflhedccpaaMdRef
namespace Go.Proofs.Ytocnaflhedccpaa
open Go.RowKit

/-- Modes and faults are in their ranges. -/
structure RInv (q : Pl) : Prop where
  w : WfPl q
  m0 : 0 ≤ q.mode
  m3 : q.mode ≤ 3
  f0 : 0 ≤ q.faults
  f9 : q.faults ≤ 15
theorem or_rng : ∀ n : Fin 16, ∀ x ∈ ([1, 2, 4, 8] : List Int), 0 ≤ bits .or .i64 (n.val : Int) x ∧ bits .or .i64 (n.val : Int) x ≤ 15 := by decide +kernel
theorem or_in {f x : Int} (h0 : 0 ≤ f) (h1 : f ≤ 15) (hx : x ∈ ([1, 2, 4, 8] : List Int)) : 0 ≤ bits .or .i64 f x ∧ bits .or .i64 f x ≤ 15 := by
  obtain ⟨n, rfl⟩ : ∃ n : Nat, f = n := ⟨f.toNat, by omega⟩
  exact or_rng ⟨n, by omega⟩ x hx
theorem cnt_wf {n : Int} (h : I64 n) (b : Bool) : I64 (cntS n b) := by
  cases b
  · exact zero_i
  · exact cnt_rng h
theorem i64_of {n : Int} (a b : Int) (h0 : a ≤ n) (h1 : n ≤ b) (ha : -9223372036854775808 ≤ a) (hb : b ≤ 9223372036854775807) : I64 n := ⟨by omega, by omega⟩
theorem RInv.go {q : Pl} (h : RInv q) (k : Int) (h0 : 0 ≤ k) (h3 : k ≤ 3) : RInv (goS k q) :=
  ⟨⟨⟨by show -9223372036854775808 ≤ k; omega, by show k ≤ 9223372036854775807; omega⟩, zero_i, zero_i, zero_i, zero_i, h.w.f⟩, h0, h3, h.f0, h.f9⟩
theorem RInv.fail {q : Pl} (h : RInv q) (x : Int) (hx : x ∈ ([1, 2, 4, 8] : List Int)) : RInv (failS x q) := by
  have u := or_in h.f0 h.f9 hx
  exact ⟨⟨one_i, zero_i, zero_i, zero_i, zero_i, i64_of 0 15 u.1 u.2 (by decide) (by decide)⟩, show (0 : Int) ≤ 1 by decide, show (1 : Int) ≤ 3 by decide, u.1, u.2⟩
theorem RInv.step {q : Pl} (h : RInv q) (s : Sn) : RInv (nextS q s) := by
  unfold nextS
  split
  · exact h.go 3 (by decide) (by decide)
  split
  · unfold safeS; split
    · exact ⟨⟨zero_i, zero_i, zero_i, zero_i, zero_i, zero_i⟩, Int.le_refl 0, show (0 : Int) ≤ 3 by decide, Int.le_refl 0, show (0 : Int) ≤ 15 by decide⟩
    · exact h
  split
  · unfold detS; split
    · exact h.go 1 (by decide) (by decide)
    · exact ⟨⟨h.w.m, cnt_wf h.w.c _, h.w.g, h.w.i, h.w.l, h.w.f⟩, h.m0, h.m3, h.f0, h.f9⟩
  split
  · cases s.gap
    · simp only [cond_false]
      unfold coaS
      cases (s.gyro && !s.slow)
      · simp only [cond_false]
        split
        · exact h.go 2 (by decide) (by decide)
        · exact ⟨⟨h.w.m, h.w.c, cnt_wf h.w.g _, h.w.i, h.w.l, h.w.f⟩, h.m0, h.m3, h.f0, h.f9⟩
      · exact h.go 0 (by decide) (by decide)
    · exact h.fail 1 (by decide)
  split
  · cases s.gap
    · simp only [cond_false]
      unfold finS
      cases s.bad
      · simp only [cond_false]
        split
        · exact h.fail 2 (by decide)
        cases (s.pair && s.lit)
        · exact ⟨⟨h.w.m, h.w.c, h.w.g, h.w.i, cnt_wf h.w.l _, h.w.f⟩, h.m0, h.m3, h.f0, h.f9⟩
        · simp only [cond_true]
          split
          · exact h.fail 8 (by decide)
          · exact ⟨⟨h.w.m, h.w.c, h.w.g, cnt_wf h.w.i _, cnt_wf h.w.l _, h.w.f⟩, h.m0, h.m3, h.f0, h.f9⟩
      · exact h.fail 4 (by decide)
    · exact h.fail 1 (by decide)
  · exact h.go 3 (by decide) (by decide)
set_option maxRecDepth 100000 in
set_option maxHeartbeats 4000000 in
theorem runs_none (ao : Option Addr) (cap : Nat) (w : World) : Calls Try.prog 4 #[.slice ao 0 cap] w fun e w' => e = .returned (.bool true) ∧ Below w.heap.size w w' := by
  go_enter Try.func4, Try.ntmps4
  go_wp2_with fail
  refine (awake_any _).mono ?_
  rintro e w1 ⟨rfl, k1⟩
  go_wp2_with fail
  refine wp_loop_rounds 1 ?_
  rw [rounds_succ]
  go_wp2
  go_ret
  exact ⟨rfl, bel_al (bel_al k1 _) _⟩
set_option maxRecDepth 100000 in
set_option maxHeartbeats 4000000 in
theorem runs_walk (B o len cap : Nat) (L : Nat → Sn) (w : World) (hm : len ≤ 9223372036854775807) (hB : B < w.heap.size) (c0 : ∀ i, i < len → w.cell? ⟨B, o + i * 8, none⟩ = some (.bool (L i).gap)) (c1 : ∀ i, i < len → w.cell? ⟨B, o + i * 8 + 1, none⟩ = some (.bool (L i).gyro)) (c2 : ∀ i, i < len → w.cell? ⟨B, o + i * 8 + 2, none⟩ = some (.bool (L i).slow)) (c3 : ∀ i, i < len → w.cell? ⟨B, o + i * 8 + 3, none⟩ = some (.bool (L i).pair)) (c4 : ∀ i, i < len → w.cell? ⟨B, o + i * 8 + 4, none⟩ = some (.bool (L i).lit)) (c5 : ∀ i, i < len → w.cell? ⟨B, o + i * 8 + 5, none⟩ = some (.bool (L i).bad)) (c6 : ∀ i, i < len → w.cell? ⟨B, o + i * 8 + 6, none⟩ = some (.bool (L i).pass)) (c7 : ∀ i, i < len → w.cell? ⟨B, o + i * 8 + 7, none⟩ = some (.int .i64 (L i).order)) : Calls Try.prog 4 #[.slice (some ⟨B, o, none⟩) len cap] w fun e w' => e = .returned (.bool true) ∧ Below w.heap.size w w' := by
  have HL : Hid ((∀ i, i < len → w.cell? ⟨B, o + i * 8, none⟩ = some (.bool (L i).gap)) ∧ (∀ i, i < len → w.cell? ⟨B, o + i * 8 + 1, none⟩ = some (.bool (L i).gyro)) ∧ (∀ i, i < len → w.cell? ⟨B, o + i * 8 + 2, none⟩ = some (.bool (L i).slow)) ∧ (∀ i, i < len → w.cell? ⟨B, o + i * 8 + 3, none⟩ = some (.bool (L i).pair)) ∧ (∀ i, i < len → w.cell? ⟨B, o + i * 8 + 4, none⟩ = some (.bool (L i).lit)) ∧ (∀ i, i < len → w.cell? ⟨B, o + i * 8 + 5, none⟩ = some (.bool (L i).bad)) ∧ (∀ i, i < len → w.cell? ⟨B, o + i * 8 + 6, none⟩ = some (.bool (L i).pass)) ∧ (∀ i, i < len → w.cell? ⟨B, o + i * 8 + 7, none⟩ = some (.int .i64 (L i).order))) := ⟨c0, c1, c2, c3, c4, c5, c6, c7⟩
  clear c0 c1 c2 c3 c4 c5 c6 c7
  go_enter Try.func4, Try.ntmps4
  go_wp2_with fail
  refine (awake_any _).mono ?_
  rintro e w1 ⟨rfl, k1⟩
  have z1 := k1.size
  go_wp2_with fail
  go_loopw [11] (fun iv wr => ∃ (j : Nat) (q : Pl), j ≤ len ∧ iv = .int .i64 j ∧ Below w.heap.size w wr ∧ Arr w1.heap.size [.int .i64 q.mode, .int .i64 q.calm, .int .i64 q.good, .int .i64 q.miss, .int .i64 q.lost, .int .i64 q.faults] wr ∧ Arr (w1.heap.size + 1) [.int .i64 q.mode, .int .i64 q.calm, .int .i64 q.good, .int .i64 q.miss, .int .i64 q.lost, .int .i64 q.faults] wr ∧ Hid (RInv q)) (fun iv _ => len - (intOf iv).toNat)
  case atStart =>
    exact ⟨0, ⟨0, 0, 0, 0, 0, 0⟩, by omega, rfl, bel_al (bel_al k1 _) _, (Arr_at _ _ [.int .i64 0, .int .i64 0, .int .i64 0, .int .i64 0, .int .i64 0, .int .i64 0] _ (by simp)).alloc _, Arr_at _ _ [.int .i64 0, .int .i64 0, .int .i64 0, .int .i64 0, .int .i64 0, .int .i64 0] _ (by simp), ⟨⟨zero_i, zero_i, zero_i, zero_i, zero_i, zero_i⟩, Int.le_refl 0, show (0 : Int) ≤ 3 by decide, Int.le_refl 0, show (0 : Int) ≤ 15 by decide⟩⟩
  case round =>
    obtain ⟨j, q, hj, rfl, L0, A0, B0, HI⟩ := hrel
    obtain ⟨m0, c0, g0, i0, l0, f0⟩ := q
    dsimp only at A0 B0
    have z2 := A0.lies
    have z3 := B0.lies
    have z4 := L0.size
    by_cases hjl : j < len
    · have k0 : wr.cell? ⟨B, o + j * 8, none⟩ = some (.bool (L j).gap) := (L0.cell hB).trans (HL.out.1 j hjl)
      have k1 : wr.cell? ⟨B, o + j * 8 + 1, none⟩ = some (.bool (L j).gyro) := (L0.cell hB).trans (HL.out.2.1 j hjl)
      have k2 : wr.cell? ⟨B, o + j * 8 + 2, none⟩ = some (.bool (L j).slow) := (L0.cell hB).trans (HL.out.2.2.1 j hjl)
      have k3 : wr.cell? ⟨B, o + j * 8 + 3, none⟩ = some (.bool (L j).pair) := (L0.cell hB).trans (HL.out.2.2.2.1 j hjl)
      have k4 : wr.cell? ⟨B, o + j * 8 + 4, none⟩ = some (.bool (L j).lit) := (L0.cell hB).trans (HL.out.2.2.2.2.1 j hjl)
      have k5 : wr.cell? ⟨B, o + j * 8 + 5, none⟩ = some (.bool (L j).bad) := (L0.cell hB).trans (HL.out.2.2.2.2.2.1 j hjl)
      have k6 : wr.cell? ⟨B, o + j * 8 + 6, none⟩ = some (.bool (L j).pass) := (L0.cell hB).trans (HL.out.2.2.2.2.2.2.1 j hjl)
      have k7 : wr.cell? ⟨B, o + j * 8 + 7, none⟩ = some (.int .i64 (L j).order) := (L0.cell hB).trans (HL.out.2.2.2.2.2.2.2 j hjl)
      obtain ⟨v, HV⟩ : ∃ v, Hid (v = L j) := ⟨_, rfl⟩
      rw [← HV.out] at k0 k1 k2 k3 k4 k5 k6 k7
      clear HV
      obtain ⟨gap, gyro, slow, pair, lit, bad, pass, od⟩ := v
      dsimp only at k0 k1 k2 k3 k4 k5 k6 k7
      by_cases h5 : j = 500
      · subst h5
        go_wp2
        go_ret
        exact ⟨rfl, bel_al L0 _⟩
      · obtain ⟨q, hq⟩ : ∃ q, q = nextS ⟨m0, c0, g0, i0, l0, f0⟩ ⟨gap, gyro, slow, pair, lit, bad, pass, od⟩ := ⟨_, rfl⟩
        have h1 := fun W => next_any m0 c0 g0 i0 l0 f0 gap gyro slow pair lit bad pass od W HI.out.w.c HI.out.w.g HI.out.w.i HI.out.w.l
        have h2 := fun W => rnext_any m0 c0 g0 i0 l0 f0 gap gyro slow pair lit bad pass od W HI.out.w.c HI.out.w.g HI.out.w.i HI.out.w.l
        rw [← hq] at h1 h2
        have HJ : Hid (RInv q) := by rw [hq]; exact HI.out.step _
        clear hq
        obtain ⟨m2, c2, g2, i2, l2, f2⟩ := q
        unfold plV at h1 h2
        dsimp only at h1 h2
        have r0 : 0 ≤ m2 := HJ.out.m0
        have r3 : m2 ≤ 3 := HJ.out.m3
        have s0 : 0 ≤ f2 := HJ.out.f0
        have s9 : f2 ≤ 15 := HJ.out.f9
        have h5i : (j : Int) ≠ 500 := by omega
        go_wp2_with fail
        have S1 : Arr wr.heap.size [.bool gap, .bool gyro, .bool slow, .bool pair, .bool lit, .bool bad, .bool pass, .int .i64 od] (wr.alloc (.cells #[.bool gap, .bool gyro, .bool slow, .bool pair, .bool lit, .bool bad, .bool pass, .int .i64 od] 25)).drew := (Arr_at _ _ [.bool gap, .bool gyro, .bool slow, .bool pair, .bool lit, .bool bad, .bool pass, .int .i64 od] _ rfl).drew
        have A1 : Arr w1.heap.size [.int .i64 m0, .int .i64 c0, .int .i64 g0, .int .i64 i0, .int .i64 l0, .int .i64 f0] (wr.alloc (.cells #[.bool gap, .bool gyro, .bool slow, .bool pair, .bool lit, .bool bad, .bool pass, .int .i64 od] 25)).drew := (A0.alloc _).drew
        have B1 : Arr (w1.heap.size + 1) [.int .i64 m0, .int .i64 c0, .int .i64 g0, .int .i64 i0, .int .i64 l0, .int .i64 f0] (wr.alloc (.cells #[.bool gap, .bool gyro, .bool slow, .bool pair, .bool lit, .bool bad, .bool pass, .int .i64 od] 25)).drew := (B0.alloc _).drew
        have K1 : Below w.heap.size w (wr.alloc (.cells #[.bool gap, .bool gyro, .bool slow, .bool pair, .bool lit, .bool bad, .bool pass, .int .i64 od] 25)).drew := Below.drew (bel_al L0 _)
        refine wp_region_held_drew (S := fun w' => Arr wr.heap.size [.bool gap, .bool gyro, .bool slow, .bool pair, .bool lit, .bool bad, .bool pass, .int .i64 od] w') (by kernel_rfl) S1 (fun hHeld => ?_)
        generalize (wr.alloc (.cells #[.bool gap, .bool gyro, .bool slow, .bool pair, .bool lit, .bool bad, .bool pass, .int .i64 od] 25)).drew = y0 at S1 A1 B1 K1 hHeld ⊢
        clear A0 B0 L0 k0 k1 k2 k3 k4 k5 k6 k7
        refine take_at (i := 1) (v := ?v1) rfl (by kernel_rfl) (by kernel_rfl) (by kernel_rfl) (fun _ _ _ h => h) (Or.inl ⟨by rfl, ?y1⟩) hHeld ?t1
        case y1 => (intro wx hSw; have cs_0 : wx.cell? ⟨wr.heap.size, 0, none⟩ = some (.bool gap) := hSw.c 0 (of_decide_eq_true rfl); have cs_1 : wx.cell? ⟨wr.heap.size, 1, none⟩ = some (.bool gyro) := hSw.c 1 (of_decide_eq_true rfl); have cs_2 : wx.cell? ⟨wr.heap.size, 2, none⟩ = some (.bool slow) := hSw.c 2 (of_decide_eq_true rfl); have cs_3 : wx.cell? ⟨wr.heap.size, 3, none⟩ = some (.bool pair) := hSw.c 3 (of_decide_eq_true rfl); have cs_4 : wx.cell? ⟨wr.heap.size, 4, none⟩ = some (.bool lit) := hSw.c 4 (of_decide_eq_true rfl); have cs_5 : wx.cell? ⟨wr.heap.size, 5, none⟩ = some (.bool bad) := hSw.c 5 (of_decide_eq_true rfl); have cs_6 : wx.cell? ⟨wr.heap.size, 6, none⟩ = some (.bool pass) := hSw.c 6 (of_decide_eq_true rfl); have cs_7 : wx.cell? ⟨wr.heap.size, 7, none⟩ = some (.int .i64 od) := hSw.c 7 (of_decide_eq_true rfl); go_simp <;> with_reducible rfl)
        simp only [Act.put, List.setIfInBounds_toArray, List.set_cons_zero, List.set_cons_succ]
        refine take_at (i := 4) (v := ?v2) rfl (by kernel_rfl) (by kernel_rfl) (by kernel_rfl) (fun _ _ _ h => h) (Or.inl ⟨by rfl, ?y2⟩) hHeld ?t2
        case y2 => (intro wx hSw; have cs_0 : wx.cell? ⟨wr.heap.size, 0, none⟩ = some (.bool gap) := hSw.c 0 (of_decide_eq_true rfl); have cs_1 : wx.cell? ⟨wr.heap.size, 1, none⟩ = some (.bool gyro) := hSw.c 1 (of_decide_eq_true rfl); have cs_2 : wx.cell? ⟨wr.heap.size, 2, none⟩ = some (.bool slow) := hSw.c 2 (of_decide_eq_true rfl); have cs_3 : wx.cell? ⟨wr.heap.size, 3, none⟩ = some (.bool pair) := hSw.c 3 (of_decide_eq_true rfl); have cs_4 : wx.cell? ⟨wr.heap.size, 4, none⟩ = some (.bool lit) := hSw.c 4 (of_decide_eq_true rfl); have cs_5 : wx.cell? ⟨wr.heap.size, 5, none⟩ = some (.bool bad) := hSw.c 5 (of_decide_eq_true rfl); have cs_6 : wx.cell? ⟨wr.heap.size, 6, none⟩ = some (.bool pass) := hSw.c 6 (of_decide_eq_true rfl); have cs_7 : wx.cell? ⟨wr.heap.size, 7, none⟩ = some (.int .i64 od) := hSw.c 7 (of_decide_eq_true rfl); go_simp <;> with_reducible rfl)
        simp only [Act.put, List.setIfInBounds_toArray, List.set_cons_zero, List.set_cons_succ]
        refine call_at2 (i0 := 0) (i1 := 3) (by kernel_rfl) rfl rfl (fun K hK => ?_) (fun K hK => ?_)
        · have cx_0 : y0.cell? ⟨w1.heap.size, 0, none⟩ = some (.int .i64 m0) := A1.c 0 (of_decide_eq_true rfl)
          have cx_1 : y0.cell? ⟨w1.heap.size, 1, none⟩ = some (.int .i64 c0) := A1.c 1 (of_decide_eq_true rfl)
          have cx_2 : y0.cell? ⟨w1.heap.size, 2, none⟩ = some (.int .i64 g0) := A1.c 2 (of_decide_eq_true rfl)
          have cx_3 : y0.cell? ⟨w1.heap.size, 3, none⟩ = some (.int .i64 i0) := A1.c 3 (of_decide_eq_true rfl)
          have cx_4 : y0.cell? ⟨w1.heap.size, 4, none⟩ = some (.int .i64 l0) := A1.c 4 (of_decide_eq_true rfl)
          have cx_5 : y0.cell? ⟨w1.heap.size, 5, none⟩ = some (.int .i64 f0) := A1.c 5 (of_decide_eq_true rfl)
          go_simp
          refine hK.out _ _ S1 (fun hHeld => ?_)
          clear hK K cx_0 cx_1 cx_2 cx_3 cx_4 cx_5
          refine call_at2 (i0 := 2) (i1 := 3) (by kernel_rfl) rfl rfl (fun K hK => ?_) (fun K hK => ?_)
          · go_simp
            refine (h1 _).mono ?_
            rintro e y1 ⟨rfl, b1⟩
            have S2 := S1.below b1
            have A2 := A1.below b1
            have B2 := B1.below b1
            have K2 := bel_then K1 b1
            clear hHeld
            refine hK.out _ _ S2 (fun hHeld => ?_)
            clear hK K S1 A1 B1 K1 b1
            refine call_at (i := 3) (by kernel_rfl) rfl (fun K hK => ?_)
            have cx_0 : y1.cell? ⟨(w1.heap.size + 1), 0, none⟩ = some (.int .i64 m0) := B2.c 0 (of_decide_eq_true rfl)
            have cx_1 : y1.cell? ⟨(w1.heap.size + 1), 1, none⟩ = some (.int .i64 c0) := B2.c 1 (of_decide_eq_true rfl)
            have cx_2 : y1.cell? ⟨(w1.heap.size + 1), 2, none⟩ = some (.int .i64 g0) := B2.c 2 (of_decide_eq_true rfl)
            have cx_3 : y1.cell? ⟨(w1.heap.size + 1), 3, none⟩ = some (.int .i64 i0) := B2.c 3 (of_decide_eq_true rfl)
            have cx_4 : y1.cell? ⟨(w1.heap.size + 1), 4, none⟩ = some (.int .i64 l0) := B2.c 4 (of_decide_eq_true rfl)
            have cx_5 : y1.cell? ⟨(w1.heap.size + 1), 5, none⟩ = some (.int .i64 f0) := B2.c 5 (of_decide_eq_true rfl)
            go_simp
            refine hK.out _ _ S2 (fun hHeld => ?_)
            clear hK K cx_0 cx_1 cx_2 cx_3 cx_4 cx_5
            refine call_at (i := 5) (by kernel_rfl) rfl (fun K hK => ?_)
            go_simp
            refine (h2 _).mono ?_
            rintro e y2 ⟨rfl, b2⟩
            have S3 := S2.below b2
            have A3 := A2.below b2
            have B3 := B2.below b2
            have K3 := bel_then K2 b2
            clear hHeld
            refine hK.out _ _ S3 (fun hHeld => ?_)
            clear hK K S2 A2 B2 K2 b2
            have q1 := A3.lies
            have q2 := B3.lies
            have q3 := S3.lies
            have cx_0 : y2.cell? ⟨w1.heap.size, 0, none⟩ = some (.int .i64 m0) := A3.c 0 (of_decide_eq_true rfl)
            have gx_0 := A3.f 0 (of_decide_eq_true rfl)
            have cx_1 : y2.cell? ⟨w1.heap.size, 1, none⟩ = some (.int .i64 c0) := A3.c 1 (of_decide_eq_true rfl)
            have gx_1 := A3.f 1 (of_decide_eq_true rfl)
            have cx_2 : y2.cell? ⟨w1.heap.size, 2, none⟩ = some (.int .i64 g0) := A3.c 2 (of_decide_eq_true rfl)
            have gx_2 := A3.f 2 (of_decide_eq_true rfl)
            have cx_3 : y2.cell? ⟨w1.heap.size, 3, none⟩ = some (.int .i64 i0) := A3.c 3 (of_decide_eq_true rfl)
            have gx_3 := A3.f 3 (of_decide_eq_true rfl)
            have cx_4 : y2.cell? ⟨w1.heap.size, 4, none⟩ = some (.int .i64 l0) := A3.c 4 (of_decide_eq_true rfl)
            have gx_4 := A3.f 4 (of_decide_eq_true rfl)
            have cx_5 : y2.cell? ⟨w1.heap.size, 5, none⟩ = some (.int .i64 f0) := A3.c 5 (of_decide_eq_true rfl)
            have gx_5 := A3.f 5 (of_decide_eq_true rfl)
            refine call_at (i := 6) (by kernel_rfl) rfl (fun K hK => ?_)
            go_simp
            refine hK.out _ _ ((((((S3.new w1.heap.size 0 (by omega) (.int .i64 m2)).new w1.heap.size 1 (by omega) (.int .i64 c2)).new w1.heap.size 2 (by omega) (.int .i64 g2)).new w1.heap.size 3 (by omega) (.int .i64 i2)).new w1.heap.size 4 (by omega) (.int .i64 l2)).new w1.heap.size 5 (by omega) (.int .i64 f2)) (fun hHeld => ?_)
            have A4 := ((((((A3.put 0 (of_decide_eq_true rfl) (.int .i64 m2) [.int .i64 m2, .int .i64 c0, .int .i64 g0, .int .i64 i0, .int .i64 l0, .int .i64 f0] rfl).put 1 (of_decide_eq_true rfl) (.int .i64 c2) [.int .i64 m2, .int .i64 c2, .int .i64 g0, .int .i64 i0, .int .i64 l0, .int .i64 f0] rfl).put 2 (of_decide_eq_true rfl) (.int .i64 g2) [.int .i64 m2, .int .i64 c2, .int .i64 g2, .int .i64 i0, .int .i64 l0, .int .i64 f0] rfl).put 3 (of_decide_eq_true rfl) (.int .i64 i2) [.int .i64 m2, .int .i64 c2, .int .i64 g2, .int .i64 i2, .int .i64 l0, .int .i64 f0] rfl).put 4 (of_decide_eq_true rfl) (.int .i64 l2) [.int .i64 m2, .int .i64 c2, .int .i64 g2, .int .i64 i2, .int .i64 l2, .int .i64 f0] rfl).put 5 (of_decide_eq_true rfl) (.int .i64 f2) [.int .i64 m2, .int .i64 c2, .int .i64 g2, .int .i64 i2, .int .i64 l2, .int .i64 f2] rfl)
            have B4 := ((((((B3.new w1.heap.size 0 (by omega) (.int .i64 m2)).new w1.heap.size 1 (by omega) (.int .i64 c2)).new w1.heap.size 2 (by omega) (.int .i64 g2)).new w1.heap.size 3 (by omega) (.int .i64 i2)).new w1.heap.size 4 (by omega) (.int .i64 l2)).new w1.heap.size 5 (by omega) (.int .i64 f2))
            have S4 := ((((((S3.new w1.heap.size 0 (by omega) (.int .i64 m2)).new w1.heap.size 1 (by omega) (.int .i64 c2)).new w1.heap.size 2 (by omega) (.int .i64 g2)).new w1.heap.size 3 (by omega) (.int .i64 i2)).new w1.heap.size 4 (by omega) (.int .i64 l2)).new w1.heap.size 5 (by omega) (.int .i64 f2))
            have K4 := (bel_new (bel_new (bel_new (bel_new (bel_new (bel_new K3 w1.heap.size 0 (by omega) (.int .i64 m2)) w1.heap.size 1 (by omega) (.int .i64 c2)) w1.heap.size 2 (by omega) (.int .i64 g2)) w1.heap.size 3 (by omega) (.int .i64 i2)) w1.heap.size 4 (by omega) (.int .i64 l2)) w1.heap.size 5 (by omega) (.int .i64 f2))
            generalize ((((((y2.setCell ⟨w1.heap.size, 0, none⟩ (.int .i64 m2)).setCell ⟨w1.heap.size, 1, none⟩ (.int .i64 c2)).setCell ⟨w1.heap.size, 2, none⟩ (.int .i64 g2)).setCell ⟨w1.heap.size, 3, none⟩ (.int .i64 i2)).setCell ⟨w1.heap.size, 4, none⟩ (.int .i64 l2)).setCell ⟨w1.heap.size, 5, none⟩ (.int .i64 f2)) = y3 at A4 B4 S4 K4 hHeld ⊢
            clear hK K A3 B3 S3 K3 cx_0 gx_0 cx_1 gx_1 cx_2 gx_2 cx_3 gx_3 cx_4 gx_4 cx_5 gx_5
            have cx_0 : y3.cell? ⟨(w1.heap.size + 1), 0, none⟩ = some (.int .i64 m0) := B4.c 0 (of_decide_eq_true rfl)
            have gx_0 := B4.f 0 (of_decide_eq_true rfl)
            have cx_1 : y3.cell? ⟨(w1.heap.size + 1), 1, none⟩ = some (.int .i64 c0) := B4.c 1 (of_decide_eq_true rfl)
            have gx_1 := B4.f 1 (of_decide_eq_true rfl)
            have cx_2 : y3.cell? ⟨(w1.heap.size + 1), 2, none⟩ = some (.int .i64 g0) := B4.c 2 (of_decide_eq_true rfl)
            have gx_2 := B4.f 2 (of_decide_eq_true rfl)
            have cx_3 : y3.cell? ⟨(w1.heap.size + 1), 3, none⟩ = some (.int .i64 i0) := B4.c 3 (of_decide_eq_true rfl)
            have gx_3 := B4.f 3 (of_decide_eq_true rfl)
            have cx_4 : y3.cell? ⟨(w1.heap.size + 1), 4, none⟩ = some (.int .i64 l0) := B4.c 4 (of_decide_eq_true rfl)
            have gx_4 := B4.f 4 (of_decide_eq_true rfl)
            have cx_5 : y3.cell? ⟨(w1.heap.size + 1), 5, none⟩ = some (.int .i64 f0) := B4.c 5 (of_decide_eq_true rfl)
            have gx_5 := B4.f 5 (of_decide_eq_true rfl)
            refine call_at (i := 7) (by kernel_rfl) rfl (fun K hK => ?_)
            go_simp
            refine hK.out _ _ ((((((S4.new (w1.heap.size + 1) 0 (by omega) (.int .i64 m2)).new (w1.heap.size + 1) 1 (by omega) (.int .i64 c2)).new (w1.heap.size + 1) 2 (by omega) (.int .i64 g2)).new (w1.heap.size + 1) 3 (by omega) (.int .i64 i2)).new (w1.heap.size + 1) 4 (by omega) (.int .i64 l2)).new (w1.heap.size + 1) 5 (by omega) (.int .i64 f2)) (fun hHeld => ?_)
            have B5 := ((((((B4.put 0 (of_decide_eq_true rfl) (.int .i64 m2) [.int .i64 m2, .int .i64 c0, .int .i64 g0, .int .i64 i0, .int .i64 l0, .int .i64 f0] rfl).put 1 (of_decide_eq_true rfl) (.int .i64 c2) [.int .i64 m2, .int .i64 c2, .int .i64 g0, .int .i64 i0, .int .i64 l0, .int .i64 f0] rfl).put 2 (of_decide_eq_true rfl) (.int .i64 g2) [.int .i64 m2, .int .i64 c2, .int .i64 g2, .int .i64 i0, .int .i64 l0, .int .i64 f0] rfl).put 3 (of_decide_eq_true rfl) (.int .i64 i2) [.int .i64 m2, .int .i64 c2, .int .i64 g2, .int .i64 i2, .int .i64 l0, .int .i64 f0] rfl).put 4 (of_decide_eq_true rfl) (.int .i64 l2) [.int .i64 m2, .int .i64 c2, .int .i64 g2, .int .i64 i2, .int .i64 l2, .int .i64 f0] rfl).put 5 (of_decide_eq_true rfl) (.int .i64 f2) [.int .i64 m2, .int .i64 c2, .int .i64 g2, .int .i64 i2, .int .i64 l2, .int .i64 f2] rfl)
            have A5 := ((((((A4.new (w1.heap.size + 1) 0 (by omega) (.int .i64 m2)).new (w1.heap.size + 1) 1 (by omega) (.int .i64 c2)).new (w1.heap.size + 1) 2 (by omega) (.int .i64 g2)).new (w1.heap.size + 1) 3 (by omega) (.int .i64 i2)).new (w1.heap.size + 1) 4 (by omega) (.int .i64 l2)).new (w1.heap.size + 1) 5 (by omega) (.int .i64 f2))
            have K5 := (bel_new (bel_new (bel_new (bel_new (bel_new (bel_new K4 (w1.heap.size + 1) 0 (by omega) (.int .i64 m2)) (w1.heap.size + 1) 1 (by omega) (.int .i64 c2)) (w1.heap.size + 1) 2 (by omega) (.int .i64 g2)) (w1.heap.size + 1) 3 (by omega) (.int .i64 i2)) (w1.heap.size + 1) 4 (by omega) (.int .i64 l2)) (w1.heap.size + 1) 5 (by omega) (.int .i64 f2))
            generalize ((((((y3.setCell ⟨(w1.heap.size + 1), 0, none⟩ (.int .i64 m2)).setCell ⟨(w1.heap.size + 1), 1, none⟩ (.int .i64 c2)).setCell ⟨(w1.heap.size + 1), 2, none⟩ (.int .i64 g2)).setCell ⟨(w1.heap.size + 1), 3, none⟩ (.int .i64 i2)).setCell ⟨(w1.heap.size + 1), 4, none⟩ (.int .i64 l2)).setCell ⟨(w1.heap.size + 1), 5, none⟩ (.int .i64 f2)) = y4 at A5 B5 K5 hHeld ⊢
            clear hK K A4 B4 S4 K4 cx_0 gx_0 cx_1 gx_1 cx_2 gx_2 cx_3 gx_3 cx_4 gx_4 cx_5 gx_5
            refine wpAnyH_done (by kernel_rfl) ?_ _
            clear hHeld
            have cx_0 : y4.cell? ⟨w1.heap.size, 0, none⟩ = some (.int .i64 m2) := A5.c 0 (of_decide_eq_true rfl)
            have cx_1 : y4.cell? ⟨w1.heap.size, 1, none⟩ = some (.int .i64 c2) := A5.c 1 (of_decide_eq_true rfl)
            have cx_2 : y4.cell? ⟨w1.heap.size, 2, none⟩ = some (.int .i64 g2) := A5.c 2 (of_decide_eq_true rfl)
            have cx_3 : y4.cell? ⟨w1.heap.size, 3, none⟩ = some (.int .i64 i2) := A5.c 3 (of_decide_eq_true rfl)
            have cx_4 : y4.cell? ⟨w1.heap.size, 4, none⟩ = some (.int .i64 l2) := A5.c 4 (of_decide_eq_true rfl)
            have cx_5 : y4.cell? ⟨w1.heap.size, 5, none⟩ = some (.int .i64 f2) := A5.c 5 (of_decide_eq_true rfl)
            have cy_0 : y4.cell? ⟨(w1.heap.size + 1), 0, none⟩ = some (.int .i64 m2) := B5.c 0 (of_decide_eq_true rfl)
            have cy_1 : y4.cell? ⟨(w1.heap.size + 1), 1, none⟩ = some (.int .i64 c2) := B5.c 1 (of_decide_eq_true rfl)
            have cy_2 : y4.cell? ⟨(w1.heap.size + 1), 2, none⟩ = some (.int .i64 g2) := B5.c 2 (of_decide_eq_true rfl)
            have cy_3 : y4.cell? ⟨(w1.heap.size + 1), 3, none⟩ = some (.int .i64 i2) := B5.c 3 (of_decide_eq_true rfl)
            have cy_4 : y4.cell? ⟨(w1.heap.size + 1), 4, none⟩ = some (.int .i64 l2) := B5.c 4 (of_decide_eq_true rfl)
            have cy_5 : y4.cell? ⟨(w1.heap.size + 1), 5, none⟩ = some (.int .i64 f2) := B5.c 5 (of_decide_eq_true rfl)
            go_wp2_with fail
            go_roundw
            case rel => exact ⟨j + 1, ⟨m2, c2, g2, i2, l2, f2⟩, by omega, by go_num, K5, A5, B5, HJ⟩
            case measure => simp [intOf]; omega
          · have cx_0 : y0.cell? ⟨(w1.heap.size + 1), 0, none⟩ = some (.int .i64 m0) := B1.c 0 (of_decide_eq_true rfl)
            have cx_1 : y0.cell? ⟨(w1.heap.size + 1), 1, none⟩ = some (.int .i64 c0) := B1.c 1 (of_decide_eq_true rfl)
            have cx_2 : y0.cell? ⟨(w1.heap.size + 1), 2, none⟩ = some (.int .i64 g0) := B1.c 2 (of_decide_eq_true rfl)
            have cx_3 : y0.cell? ⟨(w1.heap.size + 1), 3, none⟩ = some (.int .i64 i0) := B1.c 3 (of_decide_eq_true rfl)
            have cx_4 : y0.cell? ⟨(w1.heap.size + 1), 4, none⟩ = some (.int .i64 l0) := B1.c 4 (of_decide_eq_true rfl)
            have cx_5 : y0.cell? ⟨(w1.heap.size + 1), 5, none⟩ = some (.int .i64 f0) := B1.c 5 (of_decide_eq_true rfl)
            go_simp
            refine hK.out _ _ S1 (fun hHeld => ?_)
            clear hK K cx_0 cx_1 cx_2 cx_3 cx_4 cx_5
            refine call_at (i := 2) (by kernel_rfl) rfl (fun K hK => ?_)
            go_simp
            refine (h1 _).mono ?_
            rintro e y1 ⟨rfl, b1⟩
            have S2 := S1.below b1
            have A2 := A1.below b1
            have B2 := B1.below b1
            have K2 := bel_then K1 b1
            clear hHeld
            refine hK.out _ _ S2 (fun hHeld => ?_)
            clear hK K S1 A1 B1 K1 b1
            refine call_at (i := 5) (by kernel_rfl) rfl (fun K hK => ?_)
            go_simp
            refine (h2 _).mono ?_
            rintro e y2 ⟨rfl, b2⟩
            have S3 := S2.below b2
            have A3 := A2.below b2
            have B3 := B2.below b2
            have K3 := bel_then K2 b2
            clear hHeld
            refine hK.out _ _ S3 (fun hHeld => ?_)
            clear hK K S2 A2 B2 K2 b2
            have q1 := A3.lies
            have q2 := B3.lies
            have q3 := S3.lies
            have cx_0 : y2.cell? ⟨w1.heap.size, 0, none⟩ = some (.int .i64 m0) := A3.c 0 (of_decide_eq_true rfl)
            have gx_0 := A3.f 0 (of_decide_eq_true rfl)
            have cx_1 : y2.cell? ⟨w1.heap.size, 1, none⟩ = some (.int .i64 c0) := A3.c 1 (of_decide_eq_true rfl)
            have gx_1 := A3.f 1 (of_decide_eq_true rfl)
            have cx_2 : y2.cell? ⟨w1.heap.size, 2, none⟩ = some (.int .i64 g0) := A3.c 2 (of_decide_eq_true rfl)
            have gx_2 := A3.f 2 (of_decide_eq_true rfl)
            have cx_3 : y2.cell? ⟨w1.heap.size, 3, none⟩ = some (.int .i64 i0) := A3.c 3 (of_decide_eq_true rfl)
            have gx_3 := A3.f 3 (of_decide_eq_true rfl)
            have cx_4 : y2.cell? ⟨w1.heap.size, 4, none⟩ = some (.int .i64 l0) := A3.c 4 (of_decide_eq_true rfl)
            have gx_4 := A3.f 4 (of_decide_eq_true rfl)
            have cx_5 : y2.cell? ⟨w1.heap.size, 5, none⟩ = some (.int .i64 f0) := A3.c 5 (of_decide_eq_true rfl)
            have gx_5 := A3.f 5 (of_decide_eq_true rfl)
            refine call_at (i := 6) (by kernel_rfl) rfl (fun K hK => ?_)
            go_simp
            refine hK.out _ _ ((((((S3.new w1.heap.size 0 (by omega) (.int .i64 m2)).new w1.heap.size 1 (by omega) (.int .i64 c2)).new w1.heap.size 2 (by omega) (.int .i64 g2)).new w1.heap.size 3 (by omega) (.int .i64 i2)).new w1.heap.size 4 (by omega) (.int .i64 l2)).new w1.heap.size 5 (by omega) (.int .i64 f2)) (fun hHeld => ?_)
            have A4 := ((((((A3.put 0 (of_decide_eq_true rfl) (.int .i64 m2) [.int .i64 m2, .int .i64 c0, .int .i64 g0, .int .i64 i0, .int .i64 l0, .int .i64 f0] rfl).put 1 (of_decide_eq_true rfl) (.int .i64 c2) [.int .i64 m2, .int .i64 c2, .int .i64 g0, .int .i64 i0, .int .i64 l0, .int .i64 f0] rfl).put 2 (of_decide_eq_true rfl) (.int .i64 g2) [.int .i64 m2, .int .i64 c2, .int .i64 g2, .int .i64 i0, .int .i64 l0, .int .i64 f0] rfl).put 3 (of_decide_eq_true rfl) (.int .i64 i2) [.int .i64 m2, .int .i64 c2, .int .i64 g2, .int .i64 i2, .int .i64 l0, .int .i64 f0] rfl).put 4 (of_decide_eq_true rfl) (.int .i64 l2) [.int .i64 m2, .int .i64 c2, .int .i64 g2, .int .i64 i2, .int .i64 l2, .int .i64 f0] rfl).put 5 (of_decide_eq_true rfl) (.int .i64 f2) [.int .i64 m2, .int .i64 c2, .int .i64 g2, .int .i64 i2, .int .i64 l2, .int .i64 f2] rfl)
            have B4 := ((((((B3.new w1.heap.size 0 (by omega) (.int .i64 m2)).new w1.heap.size 1 (by omega) (.int .i64 c2)).new w1.heap.size 2 (by omega) (.int .i64 g2)).new w1.heap.size 3 (by omega) (.int .i64 i2)).new w1.heap.size 4 (by omega) (.int .i64 l2)).new w1.heap.size 5 (by omega) (.int .i64 f2))
            have S4 := ((((((S3.new w1.heap.size 0 (by omega) (.int .i64 m2)).new w1.heap.size 1 (by omega) (.int .i64 c2)).new w1.heap.size 2 (by omega) (.int .i64 g2)).new w1.heap.size 3 (by omega) (.int .i64 i2)).new w1.heap.size 4 (by omega) (.int .i64 l2)).new w1.heap.size 5 (by omega) (.int .i64 f2))
            have K4 := (bel_new (bel_new (bel_new (bel_new (bel_new (bel_new K3 w1.heap.size 0 (by omega) (.int .i64 m2)) w1.heap.size 1 (by omega) (.int .i64 c2)) w1.heap.size 2 (by omega) (.int .i64 g2)) w1.heap.size 3 (by omega) (.int .i64 i2)) w1.heap.size 4 (by omega) (.int .i64 l2)) w1.heap.size 5 (by omega) (.int .i64 f2))
            generalize ((((((y2.setCell ⟨w1.heap.size, 0, none⟩ (.int .i64 m2)).setCell ⟨w1.heap.size, 1, none⟩ (.int .i64 c2)).setCell ⟨w1.heap.size, 2, none⟩ (.int .i64 g2)).setCell ⟨w1.heap.size, 3, none⟩ (.int .i64 i2)).setCell ⟨w1.heap.size, 4, none⟩ (.int .i64 l2)).setCell ⟨w1.heap.size, 5, none⟩ (.int .i64 f2)) = y3 at A4 B4 S4 K4 hHeld ⊢
            clear hK K A3 B3 S3 K3 cx_0 gx_0 cx_1 gx_1 cx_2 gx_2 cx_3 gx_3 cx_4 gx_4 cx_5 gx_5
            have cx_0 : y3.cell? ⟨(w1.heap.size + 1), 0, none⟩ = some (.int .i64 m0) := B4.c 0 (of_decide_eq_true rfl)
            have gx_0 := B4.f 0 (of_decide_eq_true rfl)
            have cx_1 : y3.cell? ⟨(w1.heap.size + 1), 1, none⟩ = some (.int .i64 c0) := B4.c 1 (of_decide_eq_true rfl)
            have gx_1 := B4.f 1 (of_decide_eq_true rfl)
            have cx_2 : y3.cell? ⟨(w1.heap.size + 1), 2, none⟩ = some (.int .i64 g0) := B4.c 2 (of_decide_eq_true rfl)
            have gx_2 := B4.f 2 (of_decide_eq_true rfl)
            have cx_3 : y3.cell? ⟨(w1.heap.size + 1), 3, none⟩ = some (.int .i64 i0) := B4.c 3 (of_decide_eq_true rfl)
            have gx_3 := B4.f 3 (of_decide_eq_true rfl)
            have cx_4 : y3.cell? ⟨(w1.heap.size + 1), 4, none⟩ = some (.int .i64 l0) := B4.c 4 (of_decide_eq_true rfl)
            have gx_4 := B4.f 4 (of_decide_eq_true rfl)
            have cx_5 : y3.cell? ⟨(w1.heap.size + 1), 5, none⟩ = some (.int .i64 f0) := B4.c 5 (of_decide_eq_true rfl)
            have gx_5 := B4.f 5 (of_decide_eq_true rfl)
            refine call_at (i := 7) (by kernel_rfl) rfl (fun K hK => ?_)
            go_simp
            refine hK.out _ _ ((((((S4.new (w1.heap.size + 1) 0 (by omega) (.int .i64 m2)).new (w1.heap.size + 1) 1 (by omega) (.int .i64 c2)).new (w1.heap.size + 1) 2 (by omega) (.int .i64 g2)).new (w1.heap.size + 1) 3 (by omega) (.int .i64 i2)).new (w1.heap.size + 1) 4 (by omega) (.int .i64 l2)).new (w1.heap.size + 1) 5 (by omega) (.int .i64 f2)) (fun hHeld => ?_)
            have B5 := ((((((B4.put 0 (of_decide_eq_true rfl) (.int .i64 m2) [.int .i64 m2, .int .i64 c0, .int .i64 g0, .int .i64 i0, .int .i64 l0, .int .i64 f0] rfl).put 1 (of_decide_eq_true rfl) (.int .i64 c2) [.int .i64 m2, .int .i64 c2, .int .i64 g0, .int .i64 i0, .int .i64 l0, .int .i64 f0] rfl).put 2 (of_decide_eq_true rfl) (.int .i64 g2) [.int .i64 m2, .int .i64 c2, .int .i64 g2, .int .i64 i0, .int .i64 l0, .int .i64 f0] rfl).put 3 (of_decide_eq_true rfl) (.int .i64 i2) [.int .i64 m2, .int .i64 c2, .int .i64 g2, .int .i64 i2, .int .i64 l0, .int .i64 f0] rfl).put 4 (of_decide_eq_true rfl) (.int .i64 l2) [.int .i64 m2, .int .i64 c2, .int .i64 g2, .int .i64 i2, .int .i64 l2, .int .i64 f0] rfl).put 5 (of_decide_eq_true rfl) (.int .i64 f2) [.int .i64 m2, .int .i64 c2, .int .i64 g2, .int .i64 i2, .int .i64 l2, .int .i64 f2] rfl)
            have A5 := ((((((A4.new (w1.heap.size + 1) 0 (by omega) (.int .i64 m2)).new (w1.heap.size + 1) 1 (by omega) (.int .i64 c2)).new (w1.heap.size + 1) 2 (by omega) (.int .i64 g2)).new (w1.heap.size + 1) 3 (by omega) (.int .i64 i2)).new (w1.heap.size + 1) 4 (by omega) (.int .i64 l2)).new (w1.heap.size + 1) 5 (by omega) (.int .i64 f2))
            have K5 := (bel_new (bel_new (bel_new (bel_new (bel_new (bel_new K4 (w1.heap.size + 1) 0 (by omega) (.int .i64 m2)) (w1.heap.size + 1) 1 (by omega) (.int .i64 c2)) (w1.heap.size + 1) 2 (by omega) (.int .i64 g2)) (w1.heap.size + 1) 3 (by omega) (.int .i64 i2)) (w1.heap.size + 1) 4 (by omega) (.int .i64 l2)) (w1.heap.size + 1) 5 (by omega) (.int .i64 f2))
            generalize ((((((y3.setCell ⟨(w1.heap.size + 1), 0, none⟩ (.int .i64 m2)).setCell ⟨(w1.heap.size + 1), 1, none⟩ (.int .i64 c2)).setCell ⟨(w1.heap.size + 1), 2, none⟩ (.int .i64 g2)).setCell ⟨(w1.heap.size + 1), 3, none⟩ (.int .i64 i2)).setCell ⟨(w1.heap.size + 1), 4, none⟩ (.int .i64 l2)).setCell ⟨(w1.heap.size + 1), 5, none⟩ (.int .i64 f2)) = y4 at A5 B5 K5 hHeld ⊢
            clear hK K A4 B4 S4 K4 cx_0 gx_0 cx_1 gx_1 cx_2 gx_2 cx_3 gx_3 cx_4 gx_4 cx_5 gx_5
            refine wpAnyH_done (by kernel_rfl) ?_ _
            clear hHeld
            have cx_0 : y4.cell? ⟨w1.heap.size, 0, none⟩ = some (.int .i64 m2) := A5.c 0 (of_decide_eq_true rfl)
            have cx_1 : y4.cell? ⟨w1.heap.size, 1, none⟩ = some (.int .i64 c2) := A5.c 1 (of_decide_eq_true rfl)
            have cx_2 : y4.cell? ⟨w1.heap.size, 2, none⟩ = some (.int .i64 g2) := A5.c 2 (of_decide_eq_true rfl)
            have cx_3 : y4.cell? ⟨w1.heap.size, 3, none⟩ = some (.int .i64 i2) := A5.c 3 (of_decide_eq_true rfl)
            have cx_4 : y4.cell? ⟨w1.heap.size, 4, none⟩ = some (.int .i64 l2) := A5.c 4 (of_decide_eq_true rfl)
            have cx_5 : y4.cell? ⟨w1.heap.size, 5, none⟩ = some (.int .i64 f2) := A5.c 5 (of_decide_eq_true rfl)
            have cy_0 : y4.cell? ⟨(w1.heap.size + 1), 0, none⟩ = some (.int .i64 m2) := B5.c 0 (of_decide_eq_true rfl)
            have cy_1 : y4.cell? ⟨(w1.heap.size + 1), 1, none⟩ = some (.int .i64 c2) := B5.c 1 (of_decide_eq_true rfl)
            have cy_2 : y4.cell? ⟨(w1.heap.size + 1), 2, none⟩ = some (.int .i64 g2) := B5.c 2 (of_decide_eq_true rfl)
            have cy_3 : y4.cell? ⟨(w1.heap.size + 1), 3, none⟩ = some (.int .i64 i2) := B5.c 3 (of_decide_eq_true rfl)
            have cy_4 : y4.cell? ⟨(w1.heap.size + 1), 4, none⟩ = some (.int .i64 l2) := B5.c 4 (of_decide_eq_true rfl)
            have cy_5 : y4.cell? ⟨(w1.heap.size + 1), 5, none⟩ = some (.int .i64 f2) := B5.c 5 (of_decide_eq_true rfl)
            go_wp2_with fail
            go_roundw
            case rel => exact ⟨j + 1, ⟨m2, c2, g2, i2, l2, f2⟩, by omega, by go_num, K5, A5, B5, HJ⟩
            case measure => simp [intOf]; omega
        · have cx_0 : y0.cell? ⟨(w1.heap.size + 1), 0, none⟩ = some (.int .i64 m0) := B1.c 0 (of_decide_eq_true rfl)
          have cx_1 : y0.cell? ⟨(w1.heap.size + 1), 1, none⟩ = some (.int .i64 c0) := B1.c 1 (of_decide_eq_true rfl)
          have cx_2 : y0.cell? ⟨(w1.heap.size + 1), 2, none⟩ = some (.int .i64 g0) := B1.c 2 (of_decide_eq_true rfl)
          have cx_3 : y0.cell? ⟨(w1.heap.size + 1), 3, none⟩ = some (.int .i64 i0) := B1.c 3 (of_decide_eq_true rfl)
          have cx_4 : y0.cell? ⟨(w1.heap.size + 1), 4, none⟩ = some (.int .i64 l0) := B1.c 4 (of_decide_eq_true rfl)
          have cx_5 : y0.cell? ⟨(w1.heap.size + 1), 5, none⟩ = some (.int .i64 f0) := B1.c 5 (of_decide_eq_true rfl)
          go_simp
          refine hK.out _ _ S1 (fun hHeld => ?_)
          clear hK K cx_0 cx_1 cx_2 cx_3 cx_4 cx_5
          refine call_at (i := 0) (by kernel_rfl) rfl (fun K hK => ?_)
          have cx_0 : y0.cell? ⟨w1.heap.size, 0, none⟩ = some (.int .i64 m0) := A1.c 0 (of_decide_eq_true rfl)
          have cx_1 : y0.cell? ⟨w1.heap.size, 1, none⟩ = some (.int .i64 c0) := A1.c 1 (of_decide_eq_true rfl)
          have cx_2 : y0.cell? ⟨w1.heap.size, 2, none⟩ = some (.int .i64 g0) := A1.c 2 (of_decide_eq_true rfl)
          have cx_3 : y0.cell? ⟨w1.heap.size, 3, none⟩ = some (.int .i64 i0) := A1.c 3 (of_decide_eq_true rfl)
          have cx_4 : y0.cell? ⟨w1.heap.size, 4, none⟩ = some (.int .i64 l0) := A1.c 4 (of_decide_eq_true rfl)
          have cx_5 : y0.cell? ⟨w1.heap.size, 5, none⟩ = some (.int .i64 f0) := A1.c 5 (of_decide_eq_true rfl)
          go_simp
          refine hK.out _ _ S1 (fun hHeld => ?_)
          clear hK K cx_0 cx_1 cx_2 cx_3 cx_4 cx_5
          refine call_at (i := 2) (by kernel_rfl) rfl (fun K hK => ?_)
          go_simp
          refine (h1 _).mono ?_
          rintro e y1 ⟨rfl, b1⟩
          have S2 := S1.below b1
          have A2 := A1.below b1
          have B2 := B1.below b1
          have K2 := bel_then K1 b1
          clear hHeld
          refine hK.out _ _ S2 (fun hHeld => ?_)
          clear hK K S1 A1 B1 K1 b1
          refine call_at (i := 5) (by kernel_rfl) rfl (fun K hK => ?_)
          go_simp
          refine (h2 _).mono ?_
          rintro e y2 ⟨rfl, b2⟩
          have S3 := S2.below b2
          have A3 := A2.below b2
          have B3 := B2.below b2
          have K3 := bel_then K2 b2
          clear hHeld
          refine hK.out _ _ S3 (fun hHeld => ?_)
          clear hK K S2 A2 B2 K2 b2
          have q1 := A3.lies
          have q2 := B3.lies
          have q3 := S3.lies
          have cx_0 : y2.cell? ⟨w1.heap.size, 0, none⟩ = some (.int .i64 m0) := A3.c 0 (of_decide_eq_true rfl)
          have gx_0 := A3.f 0 (of_decide_eq_true rfl)
          have cx_1 : y2.cell? ⟨w1.heap.size, 1, none⟩ = some (.int .i64 c0) := A3.c 1 (of_decide_eq_true rfl)
          have gx_1 := A3.f 1 (of_decide_eq_true rfl)
          have cx_2 : y2.cell? ⟨w1.heap.size, 2, none⟩ = some (.int .i64 g0) := A3.c 2 (of_decide_eq_true rfl)
          have gx_2 := A3.f 2 (of_decide_eq_true rfl)
          have cx_3 : y2.cell? ⟨w1.heap.size, 3, none⟩ = some (.int .i64 i0) := A3.c 3 (of_decide_eq_true rfl)
          have gx_3 := A3.f 3 (of_decide_eq_true rfl)
          have cx_4 : y2.cell? ⟨w1.heap.size, 4, none⟩ = some (.int .i64 l0) := A3.c 4 (of_decide_eq_true rfl)
          have gx_4 := A3.f 4 (of_decide_eq_true rfl)
          have cx_5 : y2.cell? ⟨w1.heap.size, 5, none⟩ = some (.int .i64 f0) := A3.c 5 (of_decide_eq_true rfl)
          have gx_5 := A3.f 5 (of_decide_eq_true rfl)
          refine call_at (i := 6) (by kernel_rfl) rfl (fun K hK => ?_)
          go_simp
          refine hK.out _ _ ((((((S3.new w1.heap.size 0 (by omega) (.int .i64 m2)).new w1.heap.size 1 (by omega) (.int .i64 c2)).new w1.heap.size 2 (by omega) (.int .i64 g2)).new w1.heap.size 3 (by omega) (.int .i64 i2)).new w1.heap.size 4 (by omega) (.int .i64 l2)).new w1.heap.size 5 (by omega) (.int .i64 f2)) (fun hHeld => ?_)
          have A4 := ((((((A3.put 0 (of_decide_eq_true rfl) (.int .i64 m2) [.int .i64 m2, .int .i64 c0, .int .i64 g0, .int .i64 i0, .int .i64 l0, .int .i64 f0] rfl).put 1 (of_decide_eq_true rfl) (.int .i64 c2) [.int .i64 m2, .int .i64 c2, .int .i64 g0, .int .i64 i0, .int .i64 l0, .int .i64 f0] rfl).put 2 (of_decide_eq_true rfl) (.int .i64 g2) [.int .i64 m2, .int .i64 c2, .int .i64 g2, .int .i64 i0, .int .i64 l0, .int .i64 f0] rfl).put 3 (of_decide_eq_true rfl) (.int .i64 i2) [.int .i64 m2, .int .i64 c2, .int .i64 g2, .int .i64 i2, .int .i64 l0, .int .i64 f0] rfl).put 4 (of_decide_eq_true rfl) (.int .i64 l2) [.int .i64 m2, .int .i64 c2, .int .i64 g2, .int .i64 i2, .int .i64 l2, .int .i64 f0] rfl).put 5 (of_decide_eq_true rfl) (.int .i64 f2) [.int .i64 m2, .int .i64 c2, .int .i64 g2, .int .i64 i2, .int .i64 l2, .int .i64 f2] rfl)
          have B4 := ((((((B3.new w1.heap.size 0 (by omega) (.int .i64 m2)).new w1.heap.size 1 (by omega) (.int .i64 c2)).new w1.heap.size 2 (by omega) (.int .i64 g2)).new w1.heap.size 3 (by omega) (.int .i64 i2)).new w1.heap.size 4 (by omega) (.int .i64 l2)).new w1.heap.size 5 (by omega) (.int .i64 f2))
          have S4 := ((((((S3.new w1.heap.size 0 (by omega) (.int .i64 m2)).new w1.heap.size 1 (by omega) (.int .i64 c2)).new w1.heap.size 2 (by omega) (.int .i64 g2)).new w1.heap.size 3 (by omega) (.int .i64 i2)).new w1.heap.size 4 (by omega) (.int .i64 l2)).new w1.heap.size 5 (by omega) (.int .i64 f2))
          have K4 := (bel_new (bel_new (bel_new (bel_new (bel_new (bel_new K3 w1.heap.size 0 (by omega) (.int .i64 m2)) w1.heap.size 1 (by omega) (.int .i64 c2)) w1.heap.size 2 (by omega) (.int .i64 g2)) w1.heap.size 3 (by omega) (.int .i64 i2)) w1.heap.size 4 (by omega) (.int .i64 l2)) w1.heap.size 5 (by omega) (.int .i64 f2))
          generalize ((((((y2.setCell ⟨w1.heap.size, 0, none⟩ (.int .i64 m2)).setCell ⟨w1.heap.size, 1, none⟩ (.int .i64 c2)).setCell ⟨w1.heap.size, 2, none⟩ (.int .i64 g2)).setCell ⟨w1.heap.size, 3, none⟩ (.int .i64 i2)).setCell ⟨w1.heap.size, 4, none⟩ (.int .i64 l2)).setCell ⟨w1.heap.size, 5, none⟩ (.int .i64 f2)) = y3 at A4 B4 S4 K4 hHeld ⊢
          clear hK K A3 B3 S3 K3 cx_0 gx_0 cx_1 gx_1 cx_2 gx_2 cx_3 gx_3 cx_4 gx_4 cx_5 gx_5
          have cx_0 : y3.cell? ⟨(w1.heap.size + 1), 0, none⟩ = some (.int .i64 m0) := B4.c 0 (of_decide_eq_true rfl)
          have gx_0 := B4.f 0 (of_decide_eq_true rfl)
          have cx_1 : y3.cell? ⟨(w1.heap.size + 1), 1, none⟩ = some (.int .i64 c0) := B4.c 1 (of_decide_eq_true rfl)
          have gx_1 := B4.f 1 (of_decide_eq_true rfl)
          have cx_2 : y3.cell? ⟨(w1.heap.size + 1), 2, none⟩ = some (.int .i64 g0) := B4.c 2 (of_decide_eq_true rfl)
          have gx_2 := B4.f 2 (of_decide_eq_true rfl)
          have cx_3 : y3.cell? ⟨(w1.heap.size + 1), 3, none⟩ = some (.int .i64 i0) := B4.c 3 (of_decide_eq_true rfl)
          have gx_3 := B4.f 3 (of_decide_eq_true rfl)
          have cx_4 : y3.cell? ⟨(w1.heap.size + 1), 4, none⟩ = some (.int .i64 l0) := B4.c 4 (of_decide_eq_true rfl)
          have gx_4 := B4.f 4 (of_decide_eq_true rfl)
          have cx_5 : y3.cell? ⟨(w1.heap.size + 1), 5, none⟩ = some (.int .i64 f0) := B4.c 5 (of_decide_eq_true rfl)
          have gx_5 := B4.f 5 (of_decide_eq_true rfl)
          refine call_at (i := 7) (by kernel_rfl) rfl (fun K hK => ?_)
          go_simp
          refine hK.out _ _ ((((((S4.new (w1.heap.size + 1) 0 (by omega) (.int .i64 m2)).new (w1.heap.size + 1) 1 (by omega) (.int .i64 c2)).new (w1.heap.size + 1) 2 (by omega) (.int .i64 g2)).new (w1.heap.size + 1) 3 (by omega) (.int .i64 i2)).new (w1.heap.size + 1) 4 (by omega) (.int .i64 l2)).new (w1.heap.size + 1) 5 (by omega) (.int .i64 f2)) (fun hHeld => ?_)
          have B5 := ((((((B4.put 0 (of_decide_eq_true rfl) (.int .i64 m2) [.int .i64 m2, .int .i64 c0, .int .i64 g0, .int .i64 i0, .int .i64 l0, .int .i64 f0] rfl).put 1 (of_decide_eq_true rfl) (.int .i64 c2) [.int .i64 m2, .int .i64 c2, .int .i64 g0, .int .i64 i0, .int .i64 l0, .int .i64 f0] rfl).put 2 (of_decide_eq_true rfl) (.int .i64 g2) [.int .i64 m2, .int .i64 c2, .int .i64 g2, .int .i64 i0, .int .i64 l0, .int .i64 f0] rfl).put 3 (of_decide_eq_true rfl) (.int .i64 i2) [.int .i64 m2, .int .i64 c2, .int .i64 g2, .int .i64 i2, .int .i64 l0, .int .i64 f0] rfl).put 4 (of_decide_eq_true rfl) (.int .i64 l2) [.int .i64 m2, .int .i64 c2, .int .i64 g2, .int .i64 i2, .int .i64 l2, .int .i64 f0] rfl).put 5 (of_decide_eq_true rfl) (.int .i64 f2) [.int .i64 m2, .int .i64 c2, .int .i64 g2, .int .i64 i2, .int .i64 l2, .int .i64 f2] rfl)
          have A5 := ((((((A4.new (w1.heap.size + 1) 0 (by omega) (.int .i64 m2)).new (w1.heap.size + 1) 1 (by omega) (.int .i64 c2)).new (w1.heap.size + 1) 2 (by omega) (.int .i64 g2)).new (w1.heap.size + 1) 3 (by omega) (.int .i64 i2)).new (w1.heap.size + 1) 4 (by omega) (.int .i64 l2)).new (w1.heap.size + 1) 5 (by omega) (.int .i64 f2))
          have K5 := (bel_new (bel_new (bel_new (bel_new (bel_new (bel_new K4 (w1.heap.size + 1) 0 (by omega) (.int .i64 m2)) (w1.heap.size + 1) 1 (by omega) (.int .i64 c2)) (w1.heap.size + 1) 2 (by omega) (.int .i64 g2)) (w1.heap.size + 1) 3 (by omega) (.int .i64 i2)) (w1.heap.size + 1) 4 (by omega) (.int .i64 l2)) (w1.heap.size + 1) 5 (by omega) (.int .i64 f2))
          generalize ((((((y3.setCell ⟨(w1.heap.size + 1), 0, none⟩ (.int .i64 m2)).setCell ⟨(w1.heap.size + 1), 1, none⟩ (.int .i64 c2)).setCell ⟨(w1.heap.size + 1), 2, none⟩ (.int .i64 g2)).setCell ⟨(w1.heap.size + 1), 3, none⟩ (.int .i64 i2)).setCell ⟨(w1.heap.size + 1), 4, none⟩ (.int .i64 l2)).setCell ⟨(w1.heap.size + 1), 5, none⟩ (.int .i64 f2)) = y4 at A5 B5 K5 hHeld ⊢
          clear hK K A4 B4 S4 K4 cx_0 gx_0 cx_1 gx_1 cx_2 gx_2 cx_3 gx_3 cx_4 gx_4 cx_5 gx_5
          refine wpAnyH_done (by kernel_rfl) ?_ _
          clear hHeld
          have cx_0 : y4.cell? ⟨w1.heap.size, 0, none⟩ = some (.int .i64 m2) := A5.c 0 (of_decide_eq_true rfl)
          have cx_1 : y4.cell? ⟨w1.heap.size, 1, none⟩ = some (.int .i64 c2) := A5.c 1 (of_decide_eq_true rfl)
          have cx_2 : y4.cell? ⟨w1.heap.size, 2, none⟩ = some (.int .i64 g2) := A5.c 2 (of_decide_eq_true rfl)
          have cx_3 : y4.cell? ⟨w1.heap.size, 3, none⟩ = some (.int .i64 i2) := A5.c 3 (of_decide_eq_true rfl)
          have cx_4 : y4.cell? ⟨w1.heap.size, 4, none⟩ = some (.int .i64 l2) := A5.c 4 (of_decide_eq_true rfl)
          have cx_5 : y4.cell? ⟨w1.heap.size, 5, none⟩ = some (.int .i64 f2) := A5.c 5 (of_decide_eq_true rfl)
          have cy_0 : y4.cell? ⟨(w1.heap.size + 1), 0, none⟩ = some (.int .i64 m2) := B5.c 0 (of_decide_eq_true rfl)
          have cy_1 : y4.cell? ⟨(w1.heap.size + 1), 1, none⟩ = some (.int .i64 c2) := B5.c 1 (of_decide_eq_true rfl)
          have cy_2 : y4.cell? ⟨(w1.heap.size + 1), 2, none⟩ = some (.int .i64 g2) := B5.c 2 (of_decide_eq_true rfl)
          have cy_3 : y4.cell? ⟨(w1.heap.size + 1), 3, none⟩ = some (.int .i64 i2) := B5.c 3 (of_decide_eq_true rfl)
          have cy_4 : y4.cell? ⟨(w1.heap.size + 1), 4, none⟩ = some (.int .i64 l2) := B5.c 4 (of_decide_eq_true rfl)
          have cy_5 : y4.cell? ⟨(w1.heap.size + 1), 5, none⟩ = some (.int .i64 f2) := B5.c 5 (of_decide_eq_true rfl)
          go_wp2_with fail
          go_roundw
          case rel => exact ⟨j + 1, ⟨m2, c2, g2, i2, l2, f2⟩, by omega, by go_num, K5, A5, B5, HJ⟩
          case measure => simp [intOf]; omega
    · obtain rfl : j = len := by omega
      go_wp2
      go_ret
      exact ⟨rfl, L0⟩
end Go.Proofs.Ytocnaflhedccpaa
