/-
  Readings out of frames: said and Read, walked, for the seat Ytoaghmbaijlklaa.
-/
import Derived.Test.YtoaghmbaijlklaaSenDir
import Derived.Test.YtoaghmbaijlklaaCCDays
import Derived.Deep.RegionWith
namespace Go.Proofs.Ytoaghmbaijlklaa
open Go.RowKit

/-- What said answers of the counts of a kind. -/
def saidR (k : Int) (s : ByteArray) : V3 :=
  if k = 1 then gyroS (sg (cnt s 0)) (sg (cnt s 2)) (sg (cnt s 4))
  else if k = 3 then (magS (sg (cnt s 0)) (sg (cnt s 2)) (sg (cnt s 4))).1
  else sunR (cnt s 0 : Nat) (cnt s 2 : Nat) (cnt s 4 : Nat) (cnt s 6 : Nat) (cnt s 8 : Nat) (cnt s 10 : Nat)
theorem saidR_ok {k : Int} {s : ByteArray} (h : saidOk k s 0 = true) : saidR k s = saidV k s 0 := by
  unfold saidOk at h
  unfold saidR saidV
  by_cases c1 : k = 1
  · rw [if_pos c1] at h ⊢
    rw [if_pos c1]
    unfold gyroS
    rw [if_pos h]
  rw [if_neg c1] at h ⊢
  rw [if_neg c1]
  by_cases c3 : k = 3
  · rw [if_pos c3, if_pos c3]
  rw [if_neg c3] at h ⊢
  rw [if_neg c3]
  unfold sunOk at h
  unfold sunR
  rw [if_pos (by simp at h; exact h.1)]
theorem saidV_tail (k : Int) (s : ByteArray) : saidV k (s.extract 6 s.size) 0 = saidV k s 6 := by
  unfold saidV
  simp only [cnt_tail]
theorem saidOk_tail (k : Int) (s : ByteArray) : saidOk k (s.extract 6 s.size) 0 = saidOk k s 6 := by
  unfold saidOk
  simp only [cnt_tail]
set_option maxHeartbeats 2000000 in
set_option maxRecDepth 100000 in
theorem ssaid_one (k : Int) (s : ByteArray) (v : V3) (b : Bool) (w : World)
    (h : (k = 1 ∧ ∀ W : World, Calls Try.prog 27 #[.string s] W fun e w' => e = .returned (.tuple #[vecV v, .bool b]) ∧ Below W.heap.size W w') ∨ (k = 3 ∧ ∀ W : World, Calls Try.prog 28 #[.string s] W fun e w' => e = .returned (.tuple #[vecV v, .bool b]) ∧ Below W.heap.size W w') ∨ ((k ≠ 1 ∧ k ≠ 3) ∧ ∀ W : World, Calls Try.prog 29 #[.string s] W fun e w' => e = .returned (.tuple #[vecV v, .bool b]) ∧ Below W.heap.size W w')) :
    Calls Try.prog 17 #[.int .i64 k, .string s] w fun e w' => e = .returned (.tuple #[vecV v, .bool b]) ∧ Below w.heap.size w w' := by
  unfold vecV at h ⊢
  rcases h with ⟨rfl, hr⟩ | ⟨rfl, hr⟩ | ⟨⟨n1, n3⟩, hr⟩
  · go_enter Try.func17, Try.ntmps17
    go_wp2_with fail
    refine (hr _).mono ?_
    rintro e X ⟨rfl, hk⟩
    have L := bel_then (bel_al (Below.refl _ w) _) hk
    have R := (Arr_at w w.heap.size [.int .i64 0, .int .i64 0, .int .i64 0] 26 rfl).below hk
    have cR_0 : X.cell? ⟨w.heap.size, 0, none⟩ = some (.int .i64 0) := R.c 0 (of_decide_eq_true rfl)
    have cR_1 : X.cell? ⟨w.heap.size, 1, none⟩ = some (.int .i64 0) := R.c 1 (of_decide_eq_true rfl)
    have cR_2 : X.cell? ⟨w.heap.size, 2, none⟩ = some (.int .i64 0) := R.c 2 (of_decide_eq_true rfl)
    have gR_0 := R.f 0 (of_decide_eq_true rfl)
    have gR_1 := R.f 1 (of_decide_eq_true rfl)
    have gR_2 := R.f 2 (of_decide_eq_true rfl)
    clear hk hr
    go_wp2_with (with_reducible refine post_stop ?_)
    have d0 := Arr.c (((R.put 0 (of_decide_eq_true rfl) (.int .i64 v.1) [.int .i64 v.1, .int .i64 0, .int .i64 0] rfl).put 1 (of_decide_eq_true rfl) (.int .i64 v.2.1) [.int .i64 v.1, .int .i64 v.2.1, .int .i64 0] rfl).put 2 (of_decide_eq_true rfl) (.int .i64 v.2.2) [.int .i64 v.1, .int .i64 v.2.1, .int .i64 v.2.2] rfl) 0 (of_decide_eq_true rfl)
    have d1 := Arr.c (((R.put 0 (of_decide_eq_true rfl) (.int .i64 v.1) [.int .i64 v.1, .int .i64 0, .int .i64 0] rfl).put 1 (of_decide_eq_true rfl) (.int .i64 v.2.1) [.int .i64 v.1, .int .i64 v.2.1, .int .i64 0] rfl).put 2 (of_decide_eq_true rfl) (.int .i64 v.2.2) [.int .i64 v.1, .int .i64 v.2.1, .int .i64 v.2.2] rfl) 1 (of_decide_eq_true rfl)
    have d2 := Arr.c (((R.put 0 (of_decide_eq_true rfl) (.int .i64 v.1) [.int .i64 v.1, .int .i64 0, .int .i64 0] rfl).put 1 (of_decide_eq_true rfl) (.int .i64 v.2.1) [.int .i64 v.1, .int .i64 v.2.1, .int .i64 0] rfl).put 2 (of_decide_eq_true rfl) (.int .i64 v.2.2) [.int .i64 v.1, .int .i64 v.2.1, .int .i64 v.2.2] rfl) 2 (of_decide_eq_true rfl)
    simp only [List.getElem_cons_zero, List.getElem_cons_succ] at d0 d1 d2
    exact ⟨bodyPost_ret (v := .tuple #[.agg #[.int .i64 v.1, .int .i64 v.2.1, .int .i64 v.2.2], .bool b]) (by simp [results_cell_tmp Try.results17, asAddr, go_sem, d0, d1, d2]) rfl ⟨rfl, bel_new (bel_new (bel_new L _ _ (by omega) _) _ _ (by omega) _) _ _ (by omega) _⟩⟩
  · go_enter Try.func17, Try.ntmps17
    go_wp2_with fail
    refine (hr _).mono ?_
    rintro e X ⟨rfl, hk⟩
    have L := bel_then (bel_al (Below.refl _ w) _) hk
    have R := (Arr_at w w.heap.size [.int .i64 0, .int .i64 0, .int .i64 0] 26 rfl).below hk
    have cR_0 : X.cell? ⟨w.heap.size, 0, none⟩ = some (.int .i64 0) := R.c 0 (of_decide_eq_true rfl)
    have cR_1 : X.cell? ⟨w.heap.size, 1, none⟩ = some (.int .i64 0) := R.c 1 (of_decide_eq_true rfl)
    have cR_2 : X.cell? ⟨w.heap.size, 2, none⟩ = some (.int .i64 0) := R.c 2 (of_decide_eq_true rfl)
    have gR_0 := R.f 0 (of_decide_eq_true rfl)
    have gR_1 := R.f 1 (of_decide_eq_true rfl)
    have gR_2 := R.f 2 (of_decide_eq_true rfl)
    clear hk hr
    go_wp2_with (with_reducible refine post_stop ?_)
    have d0 := Arr.c (((R.put 0 (of_decide_eq_true rfl) (.int .i64 v.1) [.int .i64 v.1, .int .i64 0, .int .i64 0] rfl).put 1 (of_decide_eq_true rfl) (.int .i64 v.2.1) [.int .i64 v.1, .int .i64 v.2.1, .int .i64 0] rfl).put 2 (of_decide_eq_true rfl) (.int .i64 v.2.2) [.int .i64 v.1, .int .i64 v.2.1, .int .i64 v.2.2] rfl) 0 (of_decide_eq_true rfl)
    have d1 := Arr.c (((R.put 0 (of_decide_eq_true rfl) (.int .i64 v.1) [.int .i64 v.1, .int .i64 0, .int .i64 0] rfl).put 1 (of_decide_eq_true rfl) (.int .i64 v.2.1) [.int .i64 v.1, .int .i64 v.2.1, .int .i64 0] rfl).put 2 (of_decide_eq_true rfl) (.int .i64 v.2.2) [.int .i64 v.1, .int .i64 v.2.1, .int .i64 v.2.2] rfl) 1 (of_decide_eq_true rfl)
    have d2 := Arr.c (((R.put 0 (of_decide_eq_true rfl) (.int .i64 v.1) [.int .i64 v.1, .int .i64 0, .int .i64 0] rfl).put 1 (of_decide_eq_true rfl) (.int .i64 v.2.1) [.int .i64 v.1, .int .i64 v.2.1, .int .i64 0] rfl).put 2 (of_decide_eq_true rfl) (.int .i64 v.2.2) [.int .i64 v.1, .int .i64 v.2.1, .int .i64 v.2.2] rfl) 2 (of_decide_eq_true rfl)
    simp only [List.getElem_cons_zero, List.getElem_cons_succ] at d0 d1 d2
    exact ⟨bodyPost_ret (v := .tuple #[.agg #[.int .i64 v.1, .int .i64 v.2.1, .int .i64 v.2.2], .bool b]) (by simp [results_cell_tmp Try.results17, asAddr, go_sem, d0, d1, d2]) rfl ⟨rfl, bel_new (bel_new (bel_new L _ _ (by omega) _) _ _ (by omega) _) _ _ (by omega) _⟩⟩
  · have m1 : (k == 1) = false := by simpa using n1
    have m3 : (k == 3) = false := by simpa using n3
    clear n1 n3
    go_enter Try.func17, Try.ntmps17
    go_wp2_with fail
    refine (hr _).mono ?_
    rintro e X ⟨rfl, hk⟩
    have L := bel_then (bel_al (Below.refl _ w) _) hk
    have R := (Arr_at w w.heap.size [.int .i64 0, .int .i64 0, .int .i64 0] 26 rfl).below hk
    have cR_0 : X.cell? ⟨w.heap.size, 0, none⟩ = some (.int .i64 0) := R.c 0 (of_decide_eq_true rfl)
    have cR_1 : X.cell? ⟨w.heap.size, 1, none⟩ = some (.int .i64 0) := R.c 1 (of_decide_eq_true rfl)
    have cR_2 : X.cell? ⟨w.heap.size, 2, none⟩ = some (.int .i64 0) := R.c 2 (of_decide_eq_true rfl)
    have gR_0 := R.f 0 (of_decide_eq_true rfl)
    have gR_1 := R.f 1 (of_decide_eq_true rfl)
    have gR_2 := R.f 2 (of_decide_eq_true rfl)
    clear hk hr
    go_wp2_with (with_reducible refine post_stop ?_)
    have d0 := Arr.c (((R.put 0 (of_decide_eq_true rfl) (.int .i64 v.1) [.int .i64 v.1, .int .i64 0, .int .i64 0] rfl).put 1 (of_decide_eq_true rfl) (.int .i64 v.2.1) [.int .i64 v.1, .int .i64 v.2.1, .int .i64 0] rfl).put 2 (of_decide_eq_true rfl) (.int .i64 v.2.2) [.int .i64 v.1, .int .i64 v.2.1, .int .i64 v.2.2] rfl) 0 (of_decide_eq_true rfl)
    have d1 := Arr.c (((R.put 0 (of_decide_eq_true rfl) (.int .i64 v.1) [.int .i64 v.1, .int .i64 0, .int .i64 0] rfl).put 1 (of_decide_eq_true rfl) (.int .i64 v.2.1) [.int .i64 v.1, .int .i64 v.2.1, .int .i64 0] rfl).put 2 (of_decide_eq_true rfl) (.int .i64 v.2.2) [.int .i64 v.1, .int .i64 v.2.1, .int .i64 v.2.2] rfl) 1 (of_decide_eq_true rfl)
    have d2 := Arr.c (((R.put 0 (of_decide_eq_true rfl) (.int .i64 v.1) [.int .i64 v.1, .int .i64 0, .int .i64 0] rfl).put 1 (of_decide_eq_true rfl) (.int .i64 v.2.1) [.int .i64 v.1, .int .i64 v.2.1, .int .i64 0] rfl).put 2 (of_decide_eq_true rfl) (.int .i64 v.2.2) [.int .i64 v.1, .int .i64 v.2.1, .int .i64 v.2.2] rfl) 2 (of_decide_eq_true rfl)
    simp only [List.getElem_cons_zero, List.getElem_cons_succ] at d0 d1 d2
    exact ⟨bodyPost_ret (v := .tuple #[.agg #[.int .i64 v.1, .int .i64 v.2.1, .int .i64 v.2.2], .bool b]) (by simp [results_cell_tmp Try.results17, asAddr, go_sem, d0, d1, d2]) rfl ⟨rfl, bel_new (bel_new (bel_new L _ _ (by omega) _) _ _ (by omega) _) _ _ (by omega) _⟩⟩
theorem ssaid_any (k : Int) (s : ByteArray) (w : World) (h : 6 ≤ s.size) (h2 : k ≠ 1 → k ≠ 3 → 12 ≤ s.size) :
    Calls Try.prog 17 #[.int .i64 k, .string s] w fun e w' => e = .returned (.tuple #[vecV (saidR k s), .bool (saidOk k s 0)]) ∧ Below w.heap.size w w' := by
  apply ssaid_one
  by_cases c1 : k = 1
  · left
    subst c1
    exact ⟨rfl, fun W => srates_any s W h⟩
  by_cases c3 : k = 3
  · right; left
    subst c3
    exact ⟨rfl, fun W => sstrength_any s W h⟩
  right; right
  refine ⟨⟨c1, c3⟩, fun W => ?_⟩
  have hd := sdirection_any s W (h2 c1 c3)
  have e1 : saidR k s = sunR (cnt s 0 : Nat) (cnt s 2 : Nat) (cnt s 4 : Nat) (cnt s 6 : Nat) (cnt s 8 : Nat) (cnt s 10 : Nat) := by unfold saidR; rw [if_neg c1, if_neg c3]
  have e2 : saidOk k s 0 = sunOk (cnt s 0 : Nat) (cnt s 2 : Nat) (cnt s 4 : Nat) (cnt s 6 : Nat) (cnt s 8 : Nat) (cnt s 10 : Nat) := by unfold saidOk; rw [if_neg c1, if_neg c3]
  rw [e1, e2]
  exact hd
theorem kc {W x : World} (h : Below W.heap.size W x) (b j : Nat) (hb : b < W.heap.size) : x.cell? ⟨b, j, none⟩ = W.cell? ⟨b, j, none⟩ := h.cell hb
theorem kf {W x : World} (h : Below W.heap.size W x) (b j : Nat) (hb : b < W.heap.size) : x.frozen? ⟨b, j, none⟩ = W.frozen? ⟨b, j, none⟩ := h.frozen hb
/-- A reading as a value. -/
def rdV (r : Int × Int × V3) : Value := .agg #[.int .i64 r.1, .int .i64 r.2.1, .int .i64 r.2.2.1, .int .i64 r.2.2.2.1, .int .i64 r.2.2.2.2]
set_option maxHeartbeats 2000000 in
set_option maxRecDepth 100000 in
theorem sread_not (k : Int) (s : ByteArray) (w : World) (hm : s.size ≤ maxLen) (hf : formOk k s = false) :
    Calls Try.prog 9 #[.agg #[.int .i64 k, .string s]] w fun e w' => e = .returned (.tuple #[rdV (0, 0, 0, 0, 0), .bool false]) ∧ Below w.heap.size w w' := by
  have hc := scounts_any k
  by_cases c0 : nCounts k = 0
  · rw [c0] at hc
    go_enter Try.func9, Try.ntmps9
    go_wp2_with fail
    refine (hc _).mono ?_
    rintro e X ⟨rfl, rfl⟩
    go_wp2_with (with_reducible refine post_stop ?_)
    exact ⟨bodyPost_ret (v := .tuple #[rdV (0, 0, 0, 0, 0), .bool false]) (by unfold rdV; simp [results_cell_tmp Try.results9, asAddr, go_sem]) rfl ⟨rfl, bel_al (bel_al (Below.refl _ _) _) _⟩⟩
  · have hs : ((s.size : Int) != 6 + nCounts k * 2) = true := by
      unfold formOk at hf
      unfold nCounts at c0 ⊢
      simp at hf
      simp
      split
      · omega
      · split
        · omega
        · omega
    have hn : 0 ≤ nCounts k ∧ nCounts k ≤ 6 := by unfold nCounts; split <;> (try split) <;> omega
    have hm' : (s.size : Int) ≤ 9223372036854775807 := by unfold maxLen at hm; omega
    have c1 : (nCounts k == 0) = false := by simpa using c0
    clear hf c0 hm
    generalize nCounts k = n at *
    go_enter Try.func9, Try.ntmps9
    go_wp2_with fail
    refine (hc _).mono ?_
    rintro e X ⟨rfl, rfl⟩
    go_wp2_with (with_reducible refine post_stop ?_)
    exact ⟨bodyPost_ret (v := .tuple #[rdV (0, 0, 0, 0, 0), .bool false]) (by unfold rdV; simp [results_cell_tmp Try.results9, asAddr, go_sem]) rfl ⟨rfl, bel_al (bel_al (Below.refl _ _) _) _⟩⟩
set_option maxHeartbeats 2000000 in
set_option maxRecDepth 100000 in
theorem sread_form (k : Int) (s : ByteArray) (w : World) (hf : formOk k s = true) :
    Calls Try.prog 9 #[.agg #[.int .i64 k, .string s]] w fun e w' => e = .returned (.tuple #[rdV (readR k s), .bool (readOk k s)]) ∧ Below w.heap.size w w' := by
  have hc := scounts_any k
  have hz : s.size = 12 ∧ nCounts k = 3 ∧ (k = 1 ∨ k = 3) ∨ s.size = 18 ∧ nCounts k = 6 ∧ k = 2 := by
    unfold formOk at hf
    simp at hf
    rcases hf with (⟨rfl, h⟩ | ⟨rfl, h⟩) | ⟨rfl, h⟩
    · exact Or.inl ⟨h, rfl, Or.inl rfl⟩
    · exact Or.inl ⟨h, rfl, Or.inr rfl⟩
    · exact Or.inr ⟨h, rfl, rfl⟩
  have hsl : ∀ W : World, (Instr.slice 9 (.string s) none (some (.int .i64 6)) none).run Try.prog W = .ok (.string (s.extract 0 6)) W := fun W => by
    rw [run_slice_string_h W 9 s Try.underlying9 .i64 6 (by omega) (by omega)]
    rfl
  have hsr : ∀ W : World, (Instr.slice 9 (.string s) (some (.int .i64 6)) none none).run Try.prog W = .ok (.string (s.extract 6 s.size)) W := fun W => by
    rw [run_slice_string_from_if W 9 s .i64 6 Try.underlying9, if_pos (by omega)]
    rfl
  have z6 : (s.extract 0 6).size = 6 := by rw [ByteArray.size_extract]; omega
  have zr : (s.extract 6 s.size).size = s.size - 6 := by rw [ByteArray.size_extract]; omega
  have hj := fun W => sjoined_any (s.extract 0 6) W z6
  rw [tick_head] at hj
  have hd := fun W => ssaid_any k (s.extract 6 s.size) W (by omega) (by omega)
  rw [saidOk_tail] at hd
  have HV : Hid (saidOk k s 6 = true → saidR k (s.extract 6 s.size) = saidV k s 6) := fun h => by
    rw [← saidOk_tail] at h
    rw [saidR_ok h, saidV_tail]
  have HO : Hid (readOk k s = (cRight (tickS s) && saidOk k s 6)) := by show _ = _; unfold readOk; rw [hf, Bool.true_and]
  have HR : Hid (readR k s = if readOk k s then (k, tickS s, saidV k s 6) else (0, 0, 0, 0, 0)) := rfl
  have ht := cRight_any (tickS s)
  have htr := tickS_rng s
  generalize tickS s = t at *
  generalize saidOk k s 6 = o at *
  generalize saidR k (s.extract 6 s.size) = v at *
  generalize s.extract 0 6 = s0 at *
  generalize s.extract 6 s.size = s1 at *
  obtain ⟨n, hn⟩ : ∃ n, nCounts k = n := ⟨_, rfl⟩
  rw [hn] at hc hz
  have hs12 : (s.size : Int) = 6 + n * 2 := by omega
  have hn6 : n = 3 ∨ n = 6 := by omega
  clear hn hf z6 zr
  unfold rdV vecV at *
  go_enter Try.func9, Try.ntmps9
  go_wp2_with fail
  refine (hc _).mono ?_
  rintro e X ⟨rfl, rfl⟩
  go_wp2_with fail
  refine (hj _).mono ?_
  rintro e X1 ⟨rfl, k1⟩
  have L1 := bel_then (bel_al (bel_al (Below.refl _ w) _) _) k1
  have B1 := ((Arr_at w w.heap.size [.int .i64 k, .string s] 23 rfl).alloc _).below k1
  have R1 := (Arr_at (w.alloc (.cells #[.int .i64 k, .string s] 23)) (w.heap.size + 1) [.int .i64 0, .int .i64 0, .int .i64 0, .int .i64 0, .int .i64 0] 28 (by simp)).below k1
  have Rz := R1.lies
  have Bz := B1.lies
  have cB0 : X1.cell? ⟨w.heap.size, 0, none⟩ = some (.int .i64 k) := B1.c 0 (of_decide_eq_true rfl)
  have cB1 : X1.cell? ⟨w.heap.size, 1, none⟩ = some (.string s) := B1.c 1 (of_decide_eq_true rfl)
  clear k1
  go_wp2_with fail
  go_region_with (go_at_call 17; refine (hd _).mono ?_; rintro e X2 ⟨rfl, k2⟩; have q0 := kc k2 X1.heap.size 0; have q1 := kc k2 X1.heap.size 1; have q2 := kc k2 X1.heap.size 2; have p0 := kf k2 X1.heap.size 0; have p1 := kf k2 X1.heap.size 1; have p2 := kf k2 X1.heap.size 2)
  all_goals first
    | (have L2 := bel_then (bel_drew L1) k2
       have B2 := (B1.drew).below k2
       have R2 := (R1.drew).below k2
       have z2 := k2.size
       have LY := bel_al L2 (.cells #[.int .i64 v.1, .int .i64 v.2.1, .int .i64 v.2.2] 26)
       have BY := B2.alloc (.cells #[.int .i64 v.1, .int .i64 v.2.1, .int .i64 v.2.2] 26)
       have RY := R2.alloc (.cells #[.int .i64 v.1, .int .i64 v.2.1, .int .i64 v.2.2] 26)
       have VY := Arr_at X2 X2.heap.size [.int .i64 v.1, .int .i64 v.2.1, .int .i64 v.2.2] 26 rfl
       have hbw : w.heap.size + 1 < X2.heap.size := R2.lies
       obtain ⟨Y, hY⟩ : ∃ Y, Y = X2.alloc (.cells #[.int .i64 v.1, .int .i64 v.2.1, .int .i64 v.2.2] 26) := ⟨_, rfl⟩
       rw [← hY] at LY BY RY ⊢
       rw [show X2.alloc (.cells [.int .i64 v.1, .int .i64 v.2.1, .int .i64 v.2.2].toArray 26) = Y from hY.symm] at VY
       obtain ⟨b, hb⟩ : ∃ b, b = X2.heap.size := ⟨_, rfl⟩
       rw [← hb] at VY hbw ⊢
       clear hY hb k2 L2 B2 R2 z2 q0 q1 q2 p0 p1 p2)
    | (have L2 := bel_then (bel_drew (bel_al L1 _)) k2
       have B2 := ((B1.alloc _).drew).below k2
       have R2 := ((R1.alloc _).drew).below k2
       have V2 := ((Arr_at X1 X1.heap.size [.int .i64 0, .int .i64 0, .int .i64 0] 26 rfl).drew).below k2
       have LY := bel_new (bel_new (bel_new L2 X1.heap.size 0 (by omega) (.int .i64 v.1)) X1.heap.size 1 (by omega) (.int .i64 v.2.1)) X1.heap.size 2 (by omega) (.int .i64 v.2.2)
       have BY := ((B2.new X1.heap.size 0 (by omega) (.int .i64 v.1)).new X1.heap.size 1 (by omega) (.int .i64 v.2.1)).new X1.heap.size 2 (by omega) (.int .i64 v.2.2)
       have RY := ((R2.new X1.heap.size 0 (by omega) (.int .i64 v.1)).new X1.heap.size 1 (by omega) (.int .i64 v.2.1)).new X1.heap.size 2 (by omega) (.int .i64 v.2.2)
       have VY := ((V2.put 0 (of_decide_eq_true rfl) (.int .i64 v.1) [.int .i64 v.1, .int .i64 0, .int .i64 0] rfl).put 1 (of_decide_eq_true rfl) (.int .i64 v.2.1) [.int .i64 v.1, .int .i64 v.2.1, .int .i64 0] rfl).put 2 (of_decide_eq_true rfl) (.int .i64 v.2.2) [.int .i64 v.1, .int .i64 v.2.1, .int .i64 v.2.2] rfl
       have hbw : w.heap.size + 1 < X1.heap.size := Rz
       obtain ⟨Y, hY⟩ : ∃ Y, Y = ((X2.setCell ⟨X1.heap.size, 0, none⟩ (.int .i64 v.1)).setCell ⟨X1.heap.size, 1, none⟩ (.int .i64 v.2.1)).setCell ⟨X1.heap.size, 2, none⟩ (.int .i64 v.2.2) := ⟨_, rfl⟩
       rw [← hY] at LY BY RY VY ⊢
       obtain ⟨b, hb⟩ : ∃ b, b = X1.heap.size := ⟨_, rfl⟩
       rw [← hb] at VY hbw ⊢
       clear hY hb k2 L2 B2 R2 V2 q0 q1 q2 p0 p1 p2)
  all_goals
    have Vz := VY.lies
    have Ry := RY.lies
    clear L1 B1 R1 Rz Bz cB0 cB1 X2
    cases o
    · have cR_0 : Y.cell? ⟨w.heap.size + 1, 0, none⟩ = some (.int .i64 0) := RY.c 0 (of_decide_eq_true rfl)
      have gR_0 := RY.f 0 (of_decide_eq_true rfl)
      have cR_1 : Y.cell? ⟨w.heap.size + 1, 1, none⟩ = some (.int .i64 0) := RY.c 1 (of_decide_eq_true rfl)
      have gR_1 := RY.f 1 (of_decide_eq_true rfl)
      have cR_2 : Y.cell? ⟨w.heap.size + 1, 2, none⟩ = some (.int .i64 0) := RY.c 2 (of_decide_eq_true rfl)
      have gR_2 := RY.f 2 (of_decide_eq_true rfl)
      have cR_3 : Y.cell? ⟨w.heap.size + 1, 3, none⟩ = some (.int .i64 0) := RY.c 3 (of_decide_eq_true rfl)
      have gR_3 := RY.f 3 (of_decide_eq_true rfl)
      have cR_4 : Y.cell? ⟨w.heap.size + 1, 4, none⟩ = some (.int .i64 0) := RY.c 4 (of_decide_eq_true rfl)
      have gR_4 := RY.f 4 (of_decide_eq_true rfl)
      go_wp2_with (with_reducible refine post_stop ?_)
      have d0 := Arr.c (((((RY.put 0 (of_decide_eq_true rfl) (.int .i64 0) [.int .i64 0, .int .i64 0, .int .i64 0, .int .i64 0, .int .i64 0] rfl).put 1 (of_decide_eq_true rfl) (.int .i64 0) [.int .i64 0, .int .i64 0, .int .i64 0, .int .i64 0, .int .i64 0] rfl).put 2 (of_decide_eq_true rfl) (.int .i64 0) [.int .i64 0, .int .i64 0, .int .i64 0, .int .i64 0, .int .i64 0] rfl).put 3 (of_decide_eq_true rfl) (.int .i64 0) [.int .i64 0, .int .i64 0, .int .i64 0, .int .i64 0, .int .i64 0] rfl).put 4 (of_decide_eq_true rfl) (.int .i64 0) [.int .i64 0, .int .i64 0, .int .i64 0, .int .i64 0, .int .i64 0] rfl) 0 (of_decide_eq_true rfl)
      have d1 := Arr.c (((((RY.put 0 (of_decide_eq_true rfl) (.int .i64 0) [.int .i64 0, .int .i64 0, .int .i64 0, .int .i64 0, .int .i64 0] rfl).put 1 (of_decide_eq_true rfl) (.int .i64 0) [.int .i64 0, .int .i64 0, .int .i64 0, .int .i64 0, .int .i64 0] rfl).put 2 (of_decide_eq_true rfl) (.int .i64 0) [.int .i64 0, .int .i64 0, .int .i64 0, .int .i64 0, .int .i64 0] rfl).put 3 (of_decide_eq_true rfl) (.int .i64 0) [.int .i64 0, .int .i64 0, .int .i64 0, .int .i64 0, .int .i64 0] rfl).put 4 (of_decide_eq_true rfl) (.int .i64 0) [.int .i64 0, .int .i64 0, .int .i64 0, .int .i64 0, .int .i64 0] rfl) 1 (of_decide_eq_true rfl)
      have d2 := Arr.c (((((RY.put 0 (of_decide_eq_true rfl) (.int .i64 0) [.int .i64 0, .int .i64 0, .int .i64 0, .int .i64 0, .int .i64 0] rfl).put 1 (of_decide_eq_true rfl) (.int .i64 0) [.int .i64 0, .int .i64 0, .int .i64 0, .int .i64 0, .int .i64 0] rfl).put 2 (of_decide_eq_true rfl) (.int .i64 0) [.int .i64 0, .int .i64 0, .int .i64 0, .int .i64 0, .int .i64 0] rfl).put 3 (of_decide_eq_true rfl) (.int .i64 0) [.int .i64 0, .int .i64 0, .int .i64 0, .int .i64 0, .int .i64 0] rfl).put 4 (of_decide_eq_true rfl) (.int .i64 0) [.int .i64 0, .int .i64 0, .int .i64 0, .int .i64 0, .int .i64 0] rfl) 2 (of_decide_eq_true rfl)
      have d3 := Arr.c (((((RY.put 0 (of_decide_eq_true rfl) (.int .i64 0) [.int .i64 0, .int .i64 0, .int .i64 0, .int .i64 0, .int .i64 0] rfl).put 1 (of_decide_eq_true rfl) (.int .i64 0) [.int .i64 0, .int .i64 0, .int .i64 0, .int .i64 0, .int .i64 0] rfl).put 2 (of_decide_eq_true rfl) (.int .i64 0) [.int .i64 0, .int .i64 0, .int .i64 0, .int .i64 0, .int .i64 0] rfl).put 3 (of_decide_eq_true rfl) (.int .i64 0) [.int .i64 0, .int .i64 0, .int .i64 0, .int .i64 0, .int .i64 0] rfl).put 4 (of_decide_eq_true rfl) (.int .i64 0) [.int .i64 0, .int .i64 0, .int .i64 0, .int .i64 0, .int .i64 0] rfl) 3 (of_decide_eq_true rfl)
      have d4 := Arr.c (((((RY.put 0 (of_decide_eq_true rfl) (.int .i64 0) [.int .i64 0, .int .i64 0, .int .i64 0, .int .i64 0, .int .i64 0] rfl).put 1 (of_decide_eq_true rfl) (.int .i64 0) [.int .i64 0, .int .i64 0, .int .i64 0, .int .i64 0, .int .i64 0] rfl).put 2 (of_decide_eq_true rfl) (.int .i64 0) [.int .i64 0, .int .i64 0, .int .i64 0, .int .i64 0, .int .i64 0] rfl).put 3 (of_decide_eq_true rfl) (.int .i64 0) [.int .i64 0, .int .i64 0, .int .i64 0, .int .i64 0, .int .i64 0] rfl).put 4 (of_decide_eq_true rfl) (.int .i64 0) [.int .i64 0, .int .i64 0, .int .i64 0, .int .i64 0, .int .i64 0] rfl) 4 (of_decide_eq_true rfl)
      simp only [List.getElem_cons_zero, List.getElem_cons_succ] at d0 d1 d2 d3 d4
      exact ⟨bodyPost_ret (v := .tuple #[.agg #[.int .i64 0, .int .i64 0, .int .i64 0, .int .i64 0, .int .i64 0], .bool false]) (by simp [results_cell_tmp Try.results9, asAddr, go_sem, d0, d1, d2, d3, d4]) rfl ⟨by rw [HR.out, HO.out, Bool.and_false]; rfl, (bel_new (bel_new (bel_new (bel_new (bel_new LY _ _ (by omega) _) _ _ (by omega) _) _ _ (by omega) _) _ _ (by omega) _) _ _ (by omega) _)⟩⟩
    · go_wp2_with fail
      refine (ht _).mono ?_
      rintro e U ⟨rfl, ku⟩
      have LU := bel_then LY ku
      have BU := BY.below ku
      have RU := RY.below ku
      have VU := VY.below ku
      have Vu := VU.lies
      have Ru := RU.lies
      clear ku LY BY RY VY Vz Ry ht
      cases hcr : cRight t
      · have HC : Hid (cRight t = false) := hcr
        clear hcr
        have cR_0 : U.cell? ⟨w.heap.size + 1, 0, none⟩ = some (.int .i64 0) := RU.c 0 (of_decide_eq_true rfl)
        have gR_0 := RU.f 0 (of_decide_eq_true rfl)
        have cR_1 : U.cell? ⟨w.heap.size + 1, 1, none⟩ = some (.int .i64 0) := RU.c 1 (of_decide_eq_true rfl)
        have gR_1 := RU.f 1 (of_decide_eq_true rfl)
        have cR_2 : U.cell? ⟨w.heap.size + 1, 2, none⟩ = some (.int .i64 0) := RU.c 2 (of_decide_eq_true rfl)
        have gR_2 := RU.f 2 (of_decide_eq_true rfl)
        have cR_3 : U.cell? ⟨w.heap.size + 1, 3, none⟩ = some (.int .i64 0) := RU.c 3 (of_decide_eq_true rfl)
        have gR_3 := RU.f 3 (of_decide_eq_true rfl)
        have cR_4 : U.cell? ⟨w.heap.size + 1, 4, none⟩ = some (.int .i64 0) := RU.c 4 (of_decide_eq_true rfl)
        have gR_4 := RU.f 4 (of_decide_eq_true rfl)
        go_wp2_with (with_reducible refine post_stop ?_)
        have d0 := Arr.c (((((RU.put 0 (of_decide_eq_true rfl) (.int .i64 0) [.int .i64 0, .int .i64 0, .int .i64 0, .int .i64 0, .int .i64 0] rfl).put 1 (of_decide_eq_true rfl) (.int .i64 0) [.int .i64 0, .int .i64 0, .int .i64 0, .int .i64 0, .int .i64 0] rfl).put 2 (of_decide_eq_true rfl) (.int .i64 0) [.int .i64 0, .int .i64 0, .int .i64 0, .int .i64 0, .int .i64 0] rfl).put 3 (of_decide_eq_true rfl) (.int .i64 0) [.int .i64 0, .int .i64 0, .int .i64 0, .int .i64 0, .int .i64 0] rfl).put 4 (of_decide_eq_true rfl) (.int .i64 0) [.int .i64 0, .int .i64 0, .int .i64 0, .int .i64 0, .int .i64 0] rfl) 0 (of_decide_eq_true rfl)
        have d1 := Arr.c (((((RU.put 0 (of_decide_eq_true rfl) (.int .i64 0) [.int .i64 0, .int .i64 0, .int .i64 0, .int .i64 0, .int .i64 0] rfl).put 1 (of_decide_eq_true rfl) (.int .i64 0) [.int .i64 0, .int .i64 0, .int .i64 0, .int .i64 0, .int .i64 0] rfl).put 2 (of_decide_eq_true rfl) (.int .i64 0) [.int .i64 0, .int .i64 0, .int .i64 0, .int .i64 0, .int .i64 0] rfl).put 3 (of_decide_eq_true rfl) (.int .i64 0) [.int .i64 0, .int .i64 0, .int .i64 0, .int .i64 0, .int .i64 0] rfl).put 4 (of_decide_eq_true rfl) (.int .i64 0) [.int .i64 0, .int .i64 0, .int .i64 0, .int .i64 0, .int .i64 0] rfl) 1 (of_decide_eq_true rfl)
        have d2 := Arr.c (((((RU.put 0 (of_decide_eq_true rfl) (.int .i64 0) [.int .i64 0, .int .i64 0, .int .i64 0, .int .i64 0, .int .i64 0] rfl).put 1 (of_decide_eq_true rfl) (.int .i64 0) [.int .i64 0, .int .i64 0, .int .i64 0, .int .i64 0, .int .i64 0] rfl).put 2 (of_decide_eq_true rfl) (.int .i64 0) [.int .i64 0, .int .i64 0, .int .i64 0, .int .i64 0, .int .i64 0] rfl).put 3 (of_decide_eq_true rfl) (.int .i64 0) [.int .i64 0, .int .i64 0, .int .i64 0, .int .i64 0, .int .i64 0] rfl).put 4 (of_decide_eq_true rfl) (.int .i64 0) [.int .i64 0, .int .i64 0, .int .i64 0, .int .i64 0, .int .i64 0] rfl) 2 (of_decide_eq_true rfl)
        have d3 := Arr.c (((((RU.put 0 (of_decide_eq_true rfl) (.int .i64 0) [.int .i64 0, .int .i64 0, .int .i64 0, .int .i64 0, .int .i64 0] rfl).put 1 (of_decide_eq_true rfl) (.int .i64 0) [.int .i64 0, .int .i64 0, .int .i64 0, .int .i64 0, .int .i64 0] rfl).put 2 (of_decide_eq_true rfl) (.int .i64 0) [.int .i64 0, .int .i64 0, .int .i64 0, .int .i64 0, .int .i64 0] rfl).put 3 (of_decide_eq_true rfl) (.int .i64 0) [.int .i64 0, .int .i64 0, .int .i64 0, .int .i64 0, .int .i64 0] rfl).put 4 (of_decide_eq_true rfl) (.int .i64 0) [.int .i64 0, .int .i64 0, .int .i64 0, .int .i64 0, .int .i64 0] rfl) 3 (of_decide_eq_true rfl)
        have d4 := Arr.c (((((RU.put 0 (of_decide_eq_true rfl) (.int .i64 0) [.int .i64 0, .int .i64 0, .int .i64 0, .int .i64 0, .int .i64 0] rfl).put 1 (of_decide_eq_true rfl) (.int .i64 0) [.int .i64 0, .int .i64 0, .int .i64 0, .int .i64 0, .int .i64 0] rfl).put 2 (of_decide_eq_true rfl) (.int .i64 0) [.int .i64 0, .int .i64 0, .int .i64 0, .int .i64 0, .int .i64 0] rfl).put 3 (of_decide_eq_true rfl) (.int .i64 0) [.int .i64 0, .int .i64 0, .int .i64 0, .int .i64 0, .int .i64 0] rfl).put 4 (of_decide_eq_true rfl) (.int .i64 0) [.int .i64 0, .int .i64 0, .int .i64 0, .int .i64 0, .int .i64 0] rfl) 4 (of_decide_eq_true rfl)
        simp only [List.getElem_cons_zero, List.getElem_cons_succ] at d0 d1 d2 d3 d4
        exact ⟨bodyPost_ret (v := .tuple #[.agg #[.int .i64 0, .int .i64 0, .int .i64 0, .int .i64 0, .int .i64 0], .bool false]) (by simp [results_cell_tmp Try.results9, asAddr, go_sem, d0, d1, d2, d3, d4]) rfl ⟨by rw [HR.out, HO.out, HC.out]; rfl, (bel_new (bel_new (bel_new (bel_new (bel_new LU _ _ (by omega) _) _ _ (by omega) _) _ _ (by omega) _) _ _ (by omega) _) _ _ (by omega) _)⟩⟩
      · have HC : Hid (cRight t = true) := hcr
        have hv := HV.out (by trivial)
        have HW : Hid (v = saidV k s 6) := hv
        clear hcr hv
        have cB0 : U.cell? ⟨w.heap.size, 0, none⟩ = some (.int .i64 k) := BU.c 0 (of_decide_eq_true rfl)
        have cV0 : U.cell? ⟨b, 0, none⟩ = some (.int .i64 v.1) := VU.c 0 (of_decide_eq_true rfl)
        have cV1 : U.cell? ⟨b, 1, none⟩ = some (.int .i64 v.2.1) := VU.c 1 (of_decide_eq_true rfl)
        have cV2 : U.cell? ⟨b, 2, none⟩ = some (.int .i64 v.2.2) := VU.c 2 (of_decide_eq_true rfl)
        have cR_0 : U.cell? ⟨w.heap.size + 1, 0, none⟩ = some (.int .i64 0) := RU.c 0 (of_decide_eq_true rfl)
        have gR_0 := RU.f 0 (of_decide_eq_true rfl)
        have cR_1 : U.cell? ⟨w.heap.size + 1, 1, none⟩ = some (.int .i64 0) := RU.c 1 (of_decide_eq_true rfl)
        have gR_1 := RU.f 1 (of_decide_eq_true rfl)
        have cR_2 : U.cell? ⟨w.heap.size + 1, 2, none⟩ = some (.int .i64 0) := RU.c 2 (of_decide_eq_true rfl)
        have gR_2 := RU.f 2 (of_decide_eq_true rfl)
        have cR_3 : U.cell? ⟨w.heap.size + 1, 3, none⟩ = some (.int .i64 0) := RU.c 3 (of_decide_eq_true rfl)
        have gR_3 := RU.f 3 (of_decide_eq_true rfl)
        have cR_4 : U.cell? ⟨w.heap.size + 1, 4, none⟩ = some (.int .i64 0) := RU.c 4 (of_decide_eq_true rfl)
        have gR_4 := RU.f 4 (of_decide_eq_true rfl)
        go_wp2_with (with_reducible refine post_stop ?_)
        have d0 := Arr.c (((((RU.put 0 (of_decide_eq_true rfl) (.int .i64 k) [.int .i64 k, .int .i64 0, .int .i64 0, .int .i64 0, .int .i64 0] rfl).put 1 (of_decide_eq_true rfl) (.int .i64 t) [.int .i64 k, .int .i64 t, .int .i64 0, .int .i64 0, .int .i64 0] rfl).put 2 (of_decide_eq_true rfl) (.int .i64 v.1) [.int .i64 k, .int .i64 t, .int .i64 v.1, .int .i64 0, .int .i64 0] rfl).put 3 (of_decide_eq_true rfl) (.int .i64 v.2.1) [.int .i64 k, .int .i64 t, .int .i64 v.1, .int .i64 v.2.1, .int .i64 0] rfl).put 4 (of_decide_eq_true rfl) (.int .i64 v.2.2) [.int .i64 k, .int .i64 t, .int .i64 v.1, .int .i64 v.2.1, .int .i64 v.2.2] rfl) 0 (of_decide_eq_true rfl)
        have d1 := Arr.c (((((RU.put 0 (of_decide_eq_true rfl) (.int .i64 k) [.int .i64 k, .int .i64 0, .int .i64 0, .int .i64 0, .int .i64 0] rfl).put 1 (of_decide_eq_true rfl) (.int .i64 t) [.int .i64 k, .int .i64 t, .int .i64 0, .int .i64 0, .int .i64 0] rfl).put 2 (of_decide_eq_true rfl) (.int .i64 v.1) [.int .i64 k, .int .i64 t, .int .i64 v.1, .int .i64 0, .int .i64 0] rfl).put 3 (of_decide_eq_true rfl) (.int .i64 v.2.1) [.int .i64 k, .int .i64 t, .int .i64 v.1, .int .i64 v.2.1, .int .i64 0] rfl).put 4 (of_decide_eq_true rfl) (.int .i64 v.2.2) [.int .i64 k, .int .i64 t, .int .i64 v.1, .int .i64 v.2.1, .int .i64 v.2.2] rfl) 1 (of_decide_eq_true rfl)
        have d2 := Arr.c (((((RU.put 0 (of_decide_eq_true rfl) (.int .i64 k) [.int .i64 k, .int .i64 0, .int .i64 0, .int .i64 0, .int .i64 0] rfl).put 1 (of_decide_eq_true rfl) (.int .i64 t) [.int .i64 k, .int .i64 t, .int .i64 0, .int .i64 0, .int .i64 0] rfl).put 2 (of_decide_eq_true rfl) (.int .i64 v.1) [.int .i64 k, .int .i64 t, .int .i64 v.1, .int .i64 0, .int .i64 0] rfl).put 3 (of_decide_eq_true rfl) (.int .i64 v.2.1) [.int .i64 k, .int .i64 t, .int .i64 v.1, .int .i64 v.2.1, .int .i64 0] rfl).put 4 (of_decide_eq_true rfl) (.int .i64 v.2.2) [.int .i64 k, .int .i64 t, .int .i64 v.1, .int .i64 v.2.1, .int .i64 v.2.2] rfl) 2 (of_decide_eq_true rfl)
        have d3 := Arr.c (((((RU.put 0 (of_decide_eq_true rfl) (.int .i64 k) [.int .i64 k, .int .i64 0, .int .i64 0, .int .i64 0, .int .i64 0] rfl).put 1 (of_decide_eq_true rfl) (.int .i64 t) [.int .i64 k, .int .i64 t, .int .i64 0, .int .i64 0, .int .i64 0] rfl).put 2 (of_decide_eq_true rfl) (.int .i64 v.1) [.int .i64 k, .int .i64 t, .int .i64 v.1, .int .i64 0, .int .i64 0] rfl).put 3 (of_decide_eq_true rfl) (.int .i64 v.2.1) [.int .i64 k, .int .i64 t, .int .i64 v.1, .int .i64 v.2.1, .int .i64 0] rfl).put 4 (of_decide_eq_true rfl) (.int .i64 v.2.2) [.int .i64 k, .int .i64 t, .int .i64 v.1, .int .i64 v.2.1, .int .i64 v.2.2] rfl) 3 (of_decide_eq_true rfl)
        have d4 := Arr.c (((((RU.put 0 (of_decide_eq_true rfl) (.int .i64 k) [.int .i64 k, .int .i64 0, .int .i64 0, .int .i64 0, .int .i64 0] rfl).put 1 (of_decide_eq_true rfl) (.int .i64 t) [.int .i64 k, .int .i64 t, .int .i64 0, .int .i64 0, .int .i64 0] rfl).put 2 (of_decide_eq_true rfl) (.int .i64 v.1) [.int .i64 k, .int .i64 t, .int .i64 v.1, .int .i64 0, .int .i64 0] rfl).put 3 (of_decide_eq_true rfl) (.int .i64 v.2.1) [.int .i64 k, .int .i64 t, .int .i64 v.1, .int .i64 v.2.1, .int .i64 0] rfl).put 4 (of_decide_eq_true rfl) (.int .i64 v.2.2) [.int .i64 k, .int .i64 t, .int .i64 v.1, .int .i64 v.2.1, .int .i64 v.2.2] rfl) 4 (of_decide_eq_true rfl)
        simp only [List.getElem_cons_zero, List.getElem_cons_succ] at d0 d1 d2 d3 d4
        exact ⟨bodyPost_ret (v := .tuple #[.agg #[.int .i64 k, .int .i64 t, .int .i64 v.1, .int .i64 v.2.1, .int .i64 v.2.2], .bool true]) (by simp [results_cell_tmp Try.results9, asAddr, go_sem, d0, d1, d2, d3, d4]) rfl ⟨by rw [HR.out, HO.out, HC.out, HW.out]; rfl, (bel_new (bel_new (bel_new (bel_new (bel_new LU _ _ (by omega) _) _ _ (by omega) _) _ _ (by omega) _) _ _ (by omega) _) _ _ (by omega) _)⟩⟩
end Go.Proofs.Ytoaghmbaijlklaa
