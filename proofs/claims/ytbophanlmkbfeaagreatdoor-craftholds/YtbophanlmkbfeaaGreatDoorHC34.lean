/-
A part.
A part.
A part.
A part.
A part.
A part.
A part.
A part.
-/
import Derived.Handy
import Derived.Deep.RegionHeld3
import Derived.Deep.DrawnRows
import Derived.Test.YtbophanlmkbfeaaGreatDoorHC33
import Derived.Test.YtbophanlmkbfeaaGreatDoorHC32
import Derived.Test.YtbophanlmkbfeaaGreatDoorHC18
import Derived.Test.YtbophanlmkbfeaaGreatDoorHC11
import Derived.Test.YtbophanlmkbfeaaGreatDoorHC16
namespace Go.Proofs.YtbophanlmkbfeaaGreatDoor
open Go.RowKit
theorem cnt_true {n k : Int} {b : Bool} (h : k ≤ cntW n b) (hk : 0 < k) : b = true := by
 cases b
 ·exact absurd h (by show ¬ k ≤ 0; omega)
 ·rfl
theorem next_fine {p : Tup 6} {s : See} (h : (nextT (p, s)).1 = 2) : (p.1 = 2 ∧ s.1 = false ∧ s.2.2.2.2.2.1 = false) ∨ (p.1 = 1 ∧ s.2.1 = true ∧ s.2.2.2.1 = true ∧ s.2.2.2.2.1 = true) := by
 have h : (nextW (plOf p) (snOf s)).mode = 2 := h
 show ((plOf p).mode = 2 ∧ (snOf s).gap = false ∧ (snOf s).bad = false) ∨ ((plOf p).mode = 1 ∧ (snOf s).gyro = true ∧ (snOf s).pair = true ∧ (snOf s).lit = true)
 generalize plOf p = q at h ⊢
 generalize snOf s = z at h ⊢
 unfold nextW nextV at h
 split at h
 ·exact absurd h (by show ¬ (3 : Int) = 2; decide)
 split at h
 ·rename_i h3
  unfold safeS at h
  split at h
  ·exact absurd h (by show ¬ (0 : Int) = 2; decide)
  ·omega
 split at h
 ·rename_i h0
  unfold detW at h
  split at h
  ·exact absurd h (by show ¬ (1 : Int) = 2; decide)
  ·have h : q.mode = 2 := h
   omega
 split at h
 ·rename_i h1
  cases hg : z.gap
  ·rw [hg] at h
   simp only [cond_false] at h
   unfold coaW at h
   cases hs : (z.gyro && !z.slow)
   ·rw [hs] at h
    simp only [cond_false] at h
    split at h
    ·rename_i h2
     have := cnt_true h2 (by decide)
     simp only [Bool.and_eq_true] at this
     exact .inr ⟨h1, this.1.1, this.1.2, this.2⟩
    ·have h : q.mode = 2 := h
     omega
   ·rw [hs] at h
    exact absurd h (by show ¬ (0 : Int) = 2; decide)
  ·rw [hg] at h
   exact absurd h (by show ¬ (1 : Int) = 2; decide)
 split at h
 ·rename_i h2
  cases hg : z.gap
  ·rw [hg] at h
   simp only [cond_false] at h
   unfold finW at h
   cases hb : z.bad
   ·exact .inl ⟨h2, rfl, rfl⟩
   ·rw [hb] at h
    exact absurd h (by show ¬ (1 : Int) = 2; decide)
  ·rw [hg] at h
   exact absurd h (by show ¬ (1 : Int) = 2; decide)
 ·exact absurd h (by show ¬ (3 : Int) = 2; decide)
structure GueI (g : Tup 43) : Prop where
 one : nqT g
 sum : (sprT false g).2 = false
 few : (sprT false g).1 ≤ 274877906944
theorem spr_bad {b : Bool} {g : Tup 43} (h : (sprT b g).2 = false) : b = false := by
 cases b
 ·rfl
 ·exact Bool.noConfusion (show true = false from h)
theorem filE_gue {F : Fs} (hF : FsNq F) {s : See} {g : Tup 43} {b pass : Bool} (h : (filE F s g b pass).2.2.2.2.2.2.1 = false) : b = false ∧ (filE F s g b pass).1 = g ∧ (sprT b g).2 = false ∧ (sprT b g).1 ≤ 274877906944 := by
 unfold filE at h ⊢
 rw [hF.spread] at h ⊢
 cases hs : (sprT b g).2
 ·rw [hs] at h
  simp only [Bool.false_eq_true, if_false] at h ⊢
  have h : decide ((sprT b g).1 > 274877906944) = false := h
  exact ⟨spr_bad hs, by trivial, by trivial, by have := of_decide_eq_false h; omega⟩
 ·rw [hs] at h
  exact absurd h (by simp)
theorem filR_gue {F : Fs} (hF : FsNq F) {s : See} {x : Hea} {y : Sky} {r : Tup 43 × Bool} (hr : r.2 = false → nqT r.1) (h : (filR F s x y r).2.2.2.2.2.2.1 = false) : GueI (filR F s x y r).1 := by
 unfold filR at h ⊢
 have own : ∀ pass, (filE F s r.1 r.2 pass).2.2.2.2.2.2.1 = false → GueI (filE F s r.1 r.2 pass).1 := by
  intro pass h
  obtain ⟨h1, h2, h3, h4⟩ := filE_gue hF h
  rw [h2]
  rw [h1] at h3 h4
  exact ⟨hr h1, h3, h4⟩
 split
 ·rename_i c1
  rw [if_pos c1] at h
  split
  ·rename_i c2
   rw [if_pos c2] at h
   obtain ⟨h1, h2, h3, h4⟩ := filE_gue hF h
   obtain ⟨k1, k2⟩ := hF.meet _ _ h1
   rw [h2]
   rw [h1] at h3 h4
   exact ⟨k2 (hr k1), h3, h4⟩
  ·rename_i c2
   rw [if_neg c2] at h
   exact own _ h
 ·rename_i c1
  rw [if_neg c1] at h
  exact own _ h
theorem filW_gue {F : Fs} (hF : FsNq F) {g : Tup 43} {s : See} {ms : Int} {x : Hea} {y : Sky} (h : (filW F g s ms x y).2.2.2.2.2.2.1 = false) : GueI (filW F g s ms x y).1 := by
 unfold filW at h ⊢
 split
 ·rename_i c1
  rw [if_pos c1] at h
  exact filR_gue hF (hF.move _ _) h
 ·rename_i c1
  rw [if_neg c1] at h
  exact filR_gue hF (hF.move _ _) h
theorem start_spr (q : Tup 4) : sprT false (startT q) = (51539607552, false) := by kernel_rfl
theorem start_gue {q : Tup 4} (h : nq4 q) : GueI (startT q) := ⟨h, by rw [start_spr], by rw [start_spr]; show (51539607552 : Int) ≤ _; decide⟩
structure FinI (c : Cra) : Prop where
 fine : (cPlan c).1 = 2 → GueI (cGues c)
 none : (cPlan c).1 ≠ 2 → cGues c = zeroG
theorem FinI.zero : FinI zeroCra := ⟨fun h => absurd h (by decide), fun _ => rfl⟩
theorem plan_fine {F : Fs} (hF : FsNq F) {c : Cra} {s : See} {x : Hea} {y : Sky} (h : (cPlan c).1 = 2 → s.1 = false → s.2.2.2.2.2.1 = false → GueI (cGues c)) :
    ((planW F c s x y).1.1 = 2 → GueI (planW F c s x y).2) ∧ ((planW F c s x y).1.1 ≠ 2 → (planW F c s x y).2 = zeroG) := by
 unfold planW
 rw [hF.is.next]
 by_cases h2 : (nextT (cPlan c, s)).1 = 2
 ·rw [if_neg (by rw [decide_eq_true h2]; decide)]
  by_cases h3 : (cPlan c).1 = 2
  ·rw [if_pos (decide_eq_true h3)]
   refine ⟨fun _ => ?_, fun e => absurd h2 e⟩
   rcases next_fine h2 with ⟨_, k1, k2⟩ | ⟨k, _⟩
   ·exact h h3 k1 k2
   ·have : (cPlan c).1 = 1 := k
    omega
  ·rw [if_neg (by rw [decide_eq_false h3]; decide)]
   unfold entW
   cases ha : (F.att false (y.2.2, dirsW x)).2
   ·simp only [Bool.false_eq_true, if_false]
    refine ⟨fun _ => ?_, fun e => absurd h2 e⟩
    rw [hF.start]
    exact start_gue (hF.att _ _ ha)
   ·simp only [if_true]
    exact ⟨fun e => absurd e (by decide), fun _ => by trivial⟩
 ·rw [if_pos (by rw [decide_eq_false h2]; rfl)]
  exact ⟨fun e => absurd e h2, fun _ => rfl⟩
theorem step_fine {F : Fs} (hF : FsNq F) {c : Cra} {t : Int} (b : ByteArray) (hs : stays c t = false) : FinI (stepF F c t b).1 := by
 obtain ⟨e, _, _⟩ := stays_no hF.is hs b
 rw [e]
 unfold stepR
 generalize takeW F c t b = T
 obtain ⟨c1, x⟩ := T
 dsimp only
 generalize setDri c1 (driftW F c1.2.2.2.2.2.2.1 x) = c2
 unfold goW
 split
 ·rename_i h2
  split
  ·unfold endW
   have := plan_fine hF (c := setGue c2 (filW F c2.2.2.2.2.2.2.2.1 (decW F c2 t x (skyW F c2 t)) (IntKind.i64.wrap (t - c2.2.1)) x (skyW F c2 t)).1) (s := (filW F c2.2.2.2.2.2.2.2.1 (decW F c2 t x (skyW F c2 t)) (IntKind.i64.wrap (t - c2.2.1)) x (skyW F c2 t)).2) (x := x) (y := skyW F c2 t) (fun _ _ k => filW_gue hF k)
   exact ⟨this.1, this.2⟩
  ·rename_i hg
   unfold endW
   have := plan_fine hF (c := c2) (s := decW F c2 t x (skyW F c2 t)) (x := x) (y := skyW F c2 t) (fun _ k _ => absurd (by rw [k]; rfl) hg)
   exact ⟨this.1, this.2⟩
 ·rename_i h2
  unfold endW
  have := plan_fine hF (c := c2) (s := decW F c2 t x (skyW F c2 t)) (x := x) (y := skyW F c2 t) (fun k _ _ => absurd (decide_eq_true k) h2)
  exact ⟨this.1, this.2⟩
end Go.Proofs.YtbophanlmkbfeaaGreatDoor
namespace Go.Proofs.YtbophanlmkbfeaaGreatDoor
open Go.RowKit
set_option maxHeartbeats 400000 in
theorem rabove_any (n m : Int) (w : World) :
    Calls Tryz.prog 72 #[.agg #[.int .u64 (hi64 n), .int .u64 (lo64 n)], .agg #[.int .u64 (hi64 m), .int .u64 (lo64 m)]] w fun e w' => e = .returned (.bool (decide (m < n))) ∧ Below w.heap.size w w' := by
 have b2 := lo64_bd n
 have b4 := lo64_bd m
 have e1 := hilo n
 have e2 := hilo m
 by_cases c1 : hi64 m < hi64 n
 ·have HF : Hid (true = decide (m < n)) := by show _ = _; simp; omega
  clear b2 b4 e1 e2
  go_enter Tryz.func72, Tryz.ntmps72
  go_wp2
  go_ret
  exact ⟨ret_bool (by simpa using HF.out), by go_grown⟩
 ·by_cases c2 : hi64 n = hi64 m
  ·have HF : Hid (decide (lo64 m < lo64 n) = decide (m < n)) := by show _ = _; simp; omega
   have c3 : (hi64 n == hi64 m) = true := by simpa using c2
   clear b2 b4 e1 e2 c2
   go_enter Tryz.func72, Tryz.ntmps72
   go_wp2
   go_ret
   exact ⟨ret_bool HF.out, by go_grown⟩
  ·have HF : Hid (false = decide (m < n)) := by show _ = _; simp; omega
   have c3 : (hi64 n == hi64 m) = false := by simpa using c2
   clear b2 b4 e1 e2 c2
   go_enter Tryz.func72, Tryz.ntmps72
   go_wp2
   go_ret
   exact ⟨ret_bool HF.out, by go_grown⟩
end Go.Proofs.YtbophanlmkbfeaaGreatDoor
namespace Go.Proofs.YtbophanlmkbfeaaGreatDoor
open Go.RowKit
attribute [local go_sem ↓] Go.wp_at_zero Go.wp_at_succ
set_option maxHeartbeats 800000 in
theorem rNorm_any (b : Nat) (bad : Bool) (x y z : Int) (w : World) (hw : Fl b bad w) :
    Calls Tryz.prog 33 #[.pointer (some ⟨b, 0, none⟩), .int .i64 x, .int .i64 y, .int .i64 z] w fun e w' => e = .returned (.int .i64 (normS bad x y z).1) ∧ Fl b (normS bad x y z).2 w' ∧ Kept b w w' := by
 go_enter Tryz.func33, Tryz.ntmps33
 go_wp2_with fail
 refine (rtake3 b bad x y z w hw).mono ?_
 rintro e w1 ⟨rfl, h2, h3⟩
 cases c : tk bad [x, y, z]
 ·rw [c] at h2
  have HS : Hid _ := normS_no c
  have H2 : Hid _ := h2
  have H3 : Hid _ := h3
  clear c h2 h3 hw
  go_wp2
  go_ret
  rw [HS.out]
  exact ⟨rfl, H2.out, H3.out⟩
 ·rw [c] at h2
  have H2 : Hid _ := h2
  have H3 : Hid _ := h3
  have HS : Hid _ := normS_yes c
  have ht := tk_three c
  have HX : Hid _ := ht.2.1
  have HY : Hid _ := ht.2.2.1
  have HZ : Hid _ := ht.2.2.2
  have sx := sz_bd ht.2.1
  have sy := sz_bd ht.2.2.1
  have sz' := sz_bd ht.2.2.2
  clear hw h2 h3 c ht
  go_wp2_with fail
  refine (rsize_any x _ HX.out).mono ?_
  rintro e w2 ⟨rfl, rfl⟩
  go_wp2_with fail
  refine (rsize_any x _ HX.out).mono ?_
  rintro e w2 ⟨rfl, rfl⟩
  go_wp2_with fail
  refine (rTimes_any (sz x) (sz x) _ ⟨sx.1, by omega⟩ ⟨sx.1, by omega⟩).mono ?_
  rintro e w3 ⟨rfl, h4⟩
  rw [sz_sq]
  have F3 : Hid _ := H2.out.below h4
  have K3 : Hid _ := H3.out.trans (Kept.of_below h4)
  clear h4 H2 H3
  go_wp2_with fail
  refine (rsize_any y _ HY.out).mono ?_
  rintro e w2 ⟨rfl, rfl⟩
  go_wp2_with fail
  refine (rsize_any y _ HY.out).mono ?_
  rintro e w2 ⟨rfl, rfl⟩
  go_wp2_with fail
  refine (rTimes_any (sz y) (sz y) _ ⟨sy.1, by omega⟩ ⟨sy.1, by omega⟩).mono ?_
  rintro e w4 ⟨rfl, h4⟩
  rw [sz_sq]
  have F4 : Hid _ := F3.out.below h4
  have K4 : Hid _ := K3.out.trans (Kept.of_below h4)
  clear h4 F3 K3
  go_wp2_with fail
  refine (radd_any (x * x) (y * y) _ (sq_bd HX.out).1 (sq_bd HY.out).1 (by have := sq_bd HX.out; have := sq_bd HY.out; omega)).mono ?_
  rintro e w5 ⟨rfl, h4⟩
  have F5 : Hid _ := F4.out.below h4
  have K5 : Hid _ := K4.out.trans (Kept.of_below h4)
  clear h4 F4 K4
  go_wp2_with fail
  refine (rsize_any z _ HZ.out).mono ?_
  rintro e w2 ⟨rfl, rfl⟩
  go_wp2_with fail
  refine (rsize_any z _ HZ.out).mono ?_
  rintro e w2 ⟨rfl, rfl⟩
  go_wp2_with fail
  refine (rTimes_any (sz z) (sz z) _ ⟨sz'.1, by omega⟩ ⟨sz'.1, by omega⟩).mono ?_
  rintro e w6 ⟨rfl, h4⟩
  rw [sz_sq]
  have F6 : Hid _ := F5.out.below h4
  have K6 : Hid _ := K5.out.trans (Kept.of_below h4)
  clear h4 F5 K5 sx sy sz'
  go_wp2_with fail
  refine (radd_any (x * x + y * y) (z * z) _ (by have := sq_bd HX.out; have := sq_bd HY.out; omega) (sq_bd HZ.out).1 (by have := sq_bd HX.out; have := sq_bd HY.out; have := sq_bd HZ.out; omega)).mono ?_
  rintro e w2 ⟨rfl, h4⟩
  have HF : Hid _ := F6.out.below h4
  have HK : Hid _ := K6.out.trans (Kept.of_below h4)
  have HN : Hid (0 ≤ x * x + y * y + z * z ∧ x * x + y * y + z * z < 85070591730234615865843651857942052864) := by show _ ∧ _; have := sq_bd HX.out; have := sq_bd HY.out; have := sq_bd HZ.out; omega
  clear h4 F6 K6 HX HY HZ
  generalize x * x + y * y + z * z = n at *
  have n0 := HN.out.1
  go_wp2
  have HB0 : Hid (Below (w2.heap.size + 1) (w2.alloc (.cells #[.int .u64 (hi64 n), .int .u64 (lo64 n)] 142)) (w2.alloc (.cells #[.int .u64 (hi64 n), .int .u64 (lo64 n)] 142))) := Below.refl _ _
  go_loopw [10, 11] (fun v6 v7 wr => ∃ j r : Int, -1 ≤ j ∧ j ≤ 62 ∧ v6 = .int .u64 r ∧ v7 = .int .i64 j ∧ 0 ≤ r ∧ r ≤ 9223372036854775807 ∧ Hid (isqf n (j + 1).toNat r = isqf n 63 0 ∧ r + 2 ^ (j + 1).toNat ≤ 2 ^ 63) ∧ Hid (Below (w2.heap.size + 1) (w2.alloc (.cells #[.int .u64 (hi64 n), .int .u64 (lo64 n)] 142)) wr)) (fun _ v7 _ => (intOf v7 + 1).toNat)
  case atStart => exact ⟨62, 0, by omega, by omega, rfl, rfl, Int.le_refl _, by omega, ⟨rfl, by decide⟩, HB0⟩
  case round =>
   obtain ⟨j, r, hj0, hj1, rfl, rfl, hr0, hr1, HR, HB⟩ := hrel
   by_cases hj : 0 ≤ j
   ·obtain ⟨m, rfl⟩ := Int.eq_ofNat_of_zero_le hj
    have c0 := HB.out.cell (p := ⟨w2.heap.size, 0, none⟩) (by simp)
    have c1 := HB.out.cell (p := ⟨w2.heap.size, 1, none⟩) (by simp)
    simp at c0 c1
    have hzs : w2.heap.size < wr.heap.size := by have := HB.out.size; simp at this; omega
    have HE : Hid (bitAt (m + 1) = 2 ^ m) := rfl
    have HP0 : Hid (0 < bitAt (m + 1)) := two_pow_pos m
    have hwp : IntKind.u64.wrap (2 ^ m) = bitAt (m + 1) := wrap_bit m (by omega)
    have hbd := bitAt_bd (m + 1) (by omega)
    have HR2 : Hid _ := HR.out.2
    rw [show ((m : Int) + 1).toNat = m + 1 by omega] at HR HR2
    have HL : Hid (r + 2 ^ m + 2 ^ m ≤ 2 ^ 63) := by show _ ≤ _; have := HR2.out; rw [Int.pow_succ] at this; omega
    have HF : Hid (isqf n (m + 1) r = isqf n m (if (r + 2 ^ m) * (r + 2 ^ m) ≤ n then r + 2 ^ m else r)) := rfl
    rw [← HE.out] at HL HF
    have hle : r + bitAt (m + 1) ≤ 9223372036854775807 := by have := HL.out; simp at this; have := HP0.out; omega
    generalize bitAt (m + 1) = t at *
    have hbd2 : 0 ≤ r + t := by omega
    go_wp2
    go_region_held3 (fun w' => w'.cell? ⟨w2.heap.size, 0, none⟩ = some (.int .u64 (hi64 n)) ∧ w'.cell? ⟨w2.heap.size, 1, none⟩ = some (.int .u64 (lo64 n))) ((first | exact ⟨c0, c1⟩ | exact ⟨cell_later hb1 c0, cell_later hb1 c1⟩ | exact ⟨cell_later hb2 (cell_later hb1 c0), cell_later hb2 (cell_later hb1 c1)⟩))
     (first
      | (go_at_call 70; refine (rTimes_any (r + t) (r + t) _ ⟨hbd2, by omega⟩ ⟨hbd2, by omega⟩).mono ?_; rintro e w3 ⟨rfl, hb1⟩)
      | (go_at_call 72; refine (rabove_any _ _ _).mono ?_; rintro e w4 ⟨rfl, hb2⟩))
    have HW : Hid (Below (w2.heap.size + 1) (w2.alloc (.cells #[.int .u64 (hi64 n), .int .u64 (lo64 n)] 142)) w4) := (HB.out.drew.trans (hb1.mono (B' := w2.heap.size + 1) (by simp; omega))).trans (hb2.mono (B' := w2.heap.size + 1) (by have := hb1.size; simp at this; omega))
    clear hb1 hb2 c0 c1
    cases c : decide (n < (r + t) * (r + t))
    ·have hc := Int.not_lt.mp (of_decide_eq_false c)
     have HC : Hid _ := hc
     clear hc c
     go_wp2
     refine ⟨⟨(m : Int) - 1, r + t, by omega, by omega, rfl, rfl, hbd2, by omega, ⟨?_, ?_⟩, HW.out⟩, by simp [intOf]⟩
     ·rw [show ((m : Int) - 1 + 1).toNat = m by omega, ← HR.out.1, HF.out, if_pos HC.out]
     ·rw [show ((m : Int) - 1 + 1).toNat = m by omega, ← HE.out]; exact HL.out
    ·have hc := of_decide_eq_true c
     have HC : Hid _ := hc
     clear hc c
     go_wp2
     refine ⟨⟨(m : Int) - 1, r, by omega, by omega, rfl, rfl, hr0, hr1, ⟨?_, ?_⟩, HW.out⟩, by simp [intOf]⟩
     ·rw [show ((m : Int) - 1 + 1).toNat = m by omega, ← HR.out.1, HF.out, if_neg (Int.not_le.mpr HC.out)]
     ·rw [show ((m : Int) - 1 + 1).toNat = m by omega, ← HE.out]; have := HL.out; omega
   ·have HJ : Hid (j = -1) := by show _ = _; omega
    have hf := (HF.out.alloc (.cells #[.int .u64 (hi64 n), .int .u64 (lo64 n)] 142)).below (HB.out.mono (by simp))
    have HQ : Hid (r = isq n) := by
     have e := HR.out.1
     rw [HJ.out] at e
     exact e
    go_wp2_with fail
    refine (rgive_any b _ _ _ hf hr0 (by omega)).mono ?_
    rintro e w5 ⟨rfl, h6, h7⟩
    go_wp2
    go_ret
    rw [HS.out, ← HQ.out]
    exact ⟨rfl, h6, ((HK.out.trans (Kept.alloc b _ _)).trans (Kept.of_below (HB.out.mono (by simp)))).trans h7⟩
end Go.Proofs.YtbophanlmkbfeaaGreatDoor
namespace Go.Proofs.YtbophanlmkbfeaaGreatDoor
open Go.RowKit
def eNor : Ct Tryz.prog := flowCt Tryz.prog 33 (then' cI (then' cI (lone' cI))) (fun bad x => normS bad x.1 x.2.1 x.2.2) cI (go_of Tryz.func33 (by kernel_rfl) (by kernel_rfl)) (fun b bad x w _ _ hw => rNorm_any b bad x.1 x.2.1 x.2.2 w hw)
end Go.Proofs.YtbophanlmkbfeaaGreatDoor
namespace Go.Proofs.YtbophanlmkbfeaaGreatDoor
open Go.RowKit
def noneV (A C : Prop) : List Bool → Prop
 | [] => C
 | c :: cs => vif c A (noneV A C cs)
theorem noneV_of {A C : Prop} (h : C) : ∀ {cs : List Bool}, (∀ c ∈ cs, c = false) → noneV A C cs
 | [], _ => h
 | c :: cs, k => by
  have e := k c List.mem_cons_self
  have r := noneV_of (A := A) h (cs := cs) (fun d hd => k d (List.mem_cons_of_mem _ hd))
  subst e
  exact r
abbrev cRej (c : Cra) : Int := (cAcks c).2.2.1
def hldA (c : Cra) : List Bool := [decide ((cPlan c).1 < 0), decide ((cPlan c).1 > 3), decide ((cPlan c).2.2.2.2.2.1 < 0), decide ((cPlan c).2.2.2.2.2.1 > 15), decide (cRej c < 0), decide (cRej c > 65535), decide ((cAcks c).1 < 0), decide ((cAcks c).1 > 255), decide ((cAcks c).2.1 < 0), decide ((cAcks c).2.1 > 3), decide (((c.2.2.1.size : Nat) : Int) > 68)]
def hldB (c : Cra) : List Bool := [decide ((cPlan c).2.1 < 0), decide ((cPlan c).2.1 > 2), decide ((cPlan c).2.2.1 < 0), decide ((cPlan c).2.2.1 > 1), decide ((cPlan c).2.2.2.1 < 0), decide ((cPlan c).2.2.2.1 > 4), decide ((cPlan c).2.2.2.2.1 < 0), decide ((cPlan c).2.2.2.2.1 > 2)]
def eqGue (P : Program) (g : Tup 43) : Bool := (cmpV P 8 40 (.agg (tEnc 43 g).toArray) (.agg (tEnc 43 zeroG).toArray)).getD false
theorem eqGue_zero : eqGue Tryz.prog zeroG = true := by kernel_rfl
def hldD (g : Tup 43) : Int := IntKind.i64.wrap ((normS (normS false g.1 g.2.1 g.2.2.1).2 (normS false g.1 g.2.1 g.2.2.1).1 g.2.2.2.1 0).1 - 1099511627776)
def hldN (g : Tup 43) : Int := IntKind.i64.wrap (IntKind.i64.wrap (g.2.2.2.2.2.2.2.1 + g.2.2.2.2.2.2.2.2.2.2.2.2.2.2.1) + g.2.2.2.2.2.2.2.2.2.2.2.2.2.2.2.2.2.2.2.2.2.1)
def hldF (g : Tup 43) (Post : Value → Prop) : Prop := vif (!(normS (normS false g.1 g.2.1 g.2.2.1).2 (normS false g.1 g.2.1 g.2.2.1).1 g.2.2.2.1 0).2) (vif (decide (hldD g ≤ 16)) (vif (decide (hldD g ≥ -16)) (Post (.bool (decide (hldN g ≤ 274877906944)))) (Post (.bool false))) (Post (.bool false))) (Post (.bool false))
structure HldI (c : Cra) : Prop where
 a : ∀ x ∈ hldA c, x = false
 b : ∀ x ∈ hldB c, x = false
 f : FinI c
theorem add_in {a b s : Int} {bad : Bool} (h : addS bad a b = (s, false)) : s = a + b ∧ -4611686018427387904 ≤ s ∧ s ≤ 4611686018427387904 ∧ bad = false := by
 unfold addS at h
 split at h
 ·rename_i ht
  cases hn : numB (a + b)
  ·rw [gv_no hn] at h
   cases h
  ·rw [gv_yes hn] at h
   have hb : bad = false := by
    unfold tk at ht
    cases bad
    ·rfl
    ·cases ht
   unfold numB at hn
   simp only [Bool.and_eq_true, decide_eq_true_eq] at hn
   cases h
   exact ⟨rfl, by omega, by omega, hb⟩
 ·cases h
theorem hldF_of {g : Tup 43} {Post : Value → Prop} (h : GueI g) (hP : Post (.bool true)) : hldF g Post := by
 obtain ⟨h1, h2, h3, h4, _⟩ := h.one
 have h1 : (normS false (normS false g.1 g.2.1 g.2.2.1).1 g.2.2.2.1 0).2 = false := h1
 have h2 : (normS false g.1 g.2.1 g.2.2.1).2 = false := h2
 have h3 : (normS false (normS false g.1 g.2.1 g.2.2.1).1 g.2.2.2.1 0).1 - 1099511627776 ≤ 16 := h3
 have h4 : -16 ≤ (normS false (normS false g.1 g.2.1 g.2.2.1).1 g.2.2.2.1 0).1 - 1099511627776 := h4
 unfold hldF hldD
 rw [h2, h1]
 generalize (normS false (normS false g.1 g.2.1 g.2.2.1).1 g.2.2.2.1 0).1 = n at h3 h4 ⊢
 have e : IntKind.i64.wrap (n - 1099511627776) = n - 1099511627776 := by rw [IntKind.wrap_i64]; omega
 rw [e, decide_eq_true h3, decide_eq_true (show n - 1099511627776 ≥ -16 by omega)]
 show Post (.bool (decide (hldN g ≤ 274877906944)))
 have hs := h.sum
 have hf := h.few
 have e2 : hldN g = (sprT false g).1 := by
  unfold sprT at hs hf ⊢
  unfold hldN
  dsimp only at hs hf ⊢
  obtain ⟨s, k⟩ : ∃ s, addS (addS false g.2.2.2.2.2.2.2.1 g.2.2.2.2.2.2.2.2.2.2.2.2.2.2.1).2 (addS false g.2.2.2.2.2.2.2.1 g.2.2.2.2.2.2.2.2.2.2.2.2.2.2.1).1 g.2.2.2.2.2.2.2.2.2.2.2.2.2.2.2.2.2.2.2.2.2.1 = (s, false) := ⟨_, Prod.ext rfl hs⟩
  rw [k]
  obtain ⟨a1, a2, a3, a4⟩ := add_in k
  obtain ⟨s', k'⟩ : ∃ s, addS false g.2.2.2.2.2.2.2.1 g.2.2.2.2.2.2.2.2.2.2.2.2.2.2.1 = (s, false) := ⟨_, Prod.ext rfl a4⟩
  obtain ⟨b1, b2, b3, _⟩ := add_in k'
  rw [k'] at a1
  dsimp only at a1 ⊢
  have c1 : IntKind.i64.wrap (g.2.2.2.2.2.2.2.1 + g.2.2.2.2.2.2.2.2.2.2.2.2.2.2.1) = s' := by rw [← b1, IntKind.wrap_i64]; omega
  rw [c1, ← a1, IntKind.wrap_i64]
  omega
 rw [e2, decide_eq_true hf]
 exact hP
set_option maxRecDepth 100000 in
theorem held_at (c : Cra) (h : HldI c) (w : World) (hw : GW w) : Calls Tryz.prog 12 ((lone' cCra).enc c).toArray w fun e w' => e = .returned (.bool true) ∧ Below w.heap.size w w' := by
 refine pure_at (d := lone' cCra) (k := cB) (x := c) (y := true) (tbl := [eNor]) (dirty := fun _ => []) (n := 4) xmixA Tryz.func12 rfl (fun Post hP => ?_) w hw
 refine Eq.mpr (β := noneV (Post (.bool false)) (noneV (Post (.bool false)) (vif (!decide ((cPlan c).1 = 2)) (Post (.bool (eqGue Tryz.prog (cGues c)))) (hldF (cGues c) Post)) (hldB c)) (hldA c)) (by kernel_rfl) ?_
 refine noneV_of (noneV_of ?_ h.b) h.a
 by_cases h2 : (cPlan c).1 = 2
 ·rw [decide_eq_true h2]
  exact hldF_of (h.f.fine h2) hP
 ·rw [decide_eq_false h2]
  show Post (.bool (eqGue Tryz.prog (cGues c)))
  rw [h.f.none h2, eqGue_zero]
  exact hP
def heldCt : Ct Tryz.prog := predCt Tryz.prog 12 (lone' cCra) (fun c K => HldI c ∧ K (.bool true)) (fun _ _ _ hK hs => ⟨hs.1, hK _ hs.2⟩) (go_of Tryz.func12 (by kernel_rfl) (by kernel_rfl))
 (fun c w hw K hs => Calls.mono (held_at c hs.1 w hw) (by rintro e w' ⟨rfl, hb⟩; exact ⟨_, rfl, rfl, hs.2, hb⟩))
end Go.Proofs.YtbophanlmkbfeaaGreatDoor
namespace Go.Proofs.YtbophanlmkbfeaaGreatDoor
open Go.RowKit
abbrev OrS := Int × Int × Bool × Tup 7 × Int
def lawS (S : OrS) (o : Tup 9 × Int) : OrS :=
 if o.1.2.1 = 1 then (o.1.1, o.2, S.2.2.1, S.2.2.2.1, o.1.2.1) else if o.1.2.1 = 2 then (o.1.1, o.2, S.2.2.1, S.2.2.2.1, o.1.2.1) else if o.1.2.1 = 3 then (o.1.1, o.2, true, o.1.2.2, S.2.2.2.2) else (o.1.1, o.2, S.2.2.1, S.2.2.2.1, S.2.2.2.2)
def lawF (S : OrS) (f : Fra) : OrS := if f.1 = 16 then lawS S (oreadT f) else S
def stOf (s : Cra × Hea) : OrS := ((cAcks s.1).1, (cAcks s.1).2.1, s.1.2.2.2.2.1, s.1.2.2.2.2.2.1, s.2.2.2.2)
def begS (c : Cra) : OrS := ((cAcks c).1, (cAcks c).2.1, c.2.2.2.2.1, c.2.2.2.2.2.1, 0)
theorem ord_bad (k : Int) (s : ByteArray) (h : (ordR k s).2 ≠ 0) : (ordR k s).1.2.1 = 0 := by
 unfold ordR at h ⊢
 split at h
 ·rename_i h1; rw [if_pos h1]
 rename_i h1
 rw [if_neg h1]
 split at h
 ·rename_i h2; rw [if_pos h2]
 rename_i h2
 rw [if_neg h2]
 split at h
 ·rename_i h3; rw [if_pos h3]
 rename_i h3
 rw [if_neg h3]
 split at h
 ·rename_i h4; rw [if_pos h4]
 rename_i h4
 rw [if_neg h4]
 split at h
 ·exact absurd rfl h
 rename_i h5
 rw [if_neg h5]
 split at h
 ·exact absurd rfl h
 rename_i h6
 rw [if_neg h6]
theorem st_sen (F : Fs) (c : Cra) (x : Hea) (f : Fra) (t : Int) : stOf (senW F c x f t) = stOf (c, x) := by
 unfold senW
 split
 ·rfl
 split
 ·rfl
 split
 ·rfl
 split
 ·rfl
 split
 ·rfl
 ·rfl
theorem st_ord (c : Cra) (x : Hea) (o : Tup 9 × Int) (h : o.2 ≠ 0 → o.1.2.1 = 0) : stOf (ordC c x o) = lawS (stOf (c, x)) o := by
 unfold ordC lawS
 by_cases h0 : o.2 = 0
 ·rw [decide_eq_true h0]
  simp only [Bool.not_true, Bool.false_eq_true, if_false]
  by_cases h1 : o.1.2.1 = 1
  ·rw [if_pos (decide_eq_true h1), if_pos h1]; rfl
  rw [if_neg (by rw [decide_eq_false h1]; decide), if_neg h1]
  by_cases h2 : o.1.2.1 = 2
  ·rw [if_pos (decide_eq_true h2), if_pos h2]; rfl
  rw [if_neg (by rw [decide_eq_false h2]; decide), if_neg h2]
  by_cases h3 : o.1.2.1 = 3
  ·rw [if_pos (decide_eq_true h3), if_pos h3]; rfl
  rw [if_neg (by rw [decide_eq_false h3]; decide), if_neg h3]
  by_cases h4 : o.1.2.1 = 4
  ·rw [if_pos (decide_eq_true h4)]; rfl
  rw [if_neg (by rw [decide_eq_false h4]; decide)]
  rfl
 ·have hz := h h0
  rw [decide_eq_false h0, if_pos (show (!false) = true from rfl), if_neg (by omega), if_neg (by omega), if_neg (by omega)]
  rfl
theorem st_hear {F : Fs} (hF : FsIs F) (t : Int) (s : Cra × Hea) (f : Fra) : stOf (hearW F t s f) = lawF (stOf s) f := by
 unfold hearW lawF
 by_cases h1 : f.1 = 1
 ·rw [if_pos h1, if_neg (by omega)]; exact st_sen F s.1 s.2 f t
 rw [if_neg h1]
 by_cases h2 : f.1 = 2
 ·rw [if_pos h2, if_neg (by omega)]; exact st_sen F s.1 s.2 f t
 rw [if_neg h2]
 by_cases h3 : f.1 = 3
 ·rw [if_pos h3, if_neg (by omega)]; exact st_sen F s.1 s.2 f t
 rw [if_neg h3]
 by_cases h4 : f.1 = 16
 ·rw [if_pos h4, if_pos h4, hF.oread]
  exact st_ord s.1 s.2 (oreadT f) (ord_bad f.1 f.2)
 ·rw [if_neg h4, if_neg h4]
  rfl
theorem st_all {F : Fs} (hF : FsIs F) (t : Int) : ∀ (fs : List Fra) (s : Cra × Hea), stOf (fs.foldl (hearW F t) s) = fs.foldl lawF (stOf s)
 | [], _ => rfl
 | f :: fs, s => by
  show stOf (fs.foldl (hearW F t) (hearW F t s f)) = fs.foldl lawF (lawF (stOf s) f)
  rw [st_all hF t fs, st_hear hF]
def frsOf (c : Cra) (b : ByteArray) : List (UInt8 × List UInt8) := (scanL (c.2.2.1 ++ b).data.toList).1
theorem st_take {F : Fs} (hF : FsIs F) (c : Cra) (t : Int) (b : ByteArray) : stOf (takeW F c t b) = ((frsOf c b).map fraOf).foldl lawF (begS c) := by
 unfold takeW
 rw [st_all hF]
 have e : stOf (begW c (c.2.2.1 ++ b).data.toList, zeroHea) = begS c := by
  unfold begW
  split
  ·rfl
  ·rfl
 rw [e]
 rfl
theorem st_step {F : Fs} (c : Cra) (t : Int) (b : ByteArray) (x : Cra × Hea) :
    cAcks (stepR F (fun _ => x) c t b).1 = cAcks x.1 ∧ (stepR F (fun _ => x) c t b).1.2.2.2.2.1 = x.1.2.2.2.2.1 ∧ (stepR F (fun _ => x) c t b).1.2.2.2.2.2.1 = x.1.2.2.2.2.2.1 := by
 unfold stepR
 dsimp only
 obtain ⟨c1, x⟩ := x
 dsimp only
 generalize driftW F c1.2.2.2.2.2.2.1 x = dr
 obtain ⟨g, s, e, _, _⟩ := goW_is F (setDri c1 dr) x t
 rw [e]
 exact ⟨rfl, rfl, rfl⟩
end Go.Proofs.YtbophanlmkbfeaaGreatDoor
namespace Go.Proofs.YtbophanlmkbfeaaGreatDoor
open Go.RowKit
theorem look_short {s : List UInt8} (h : look s = none) : s.length ≤ 68 := by
 unfold look at h
 split at h
 ·omega
 split at h
 ·cases h
 split at h
 ·omega
 split at h
 ·cases h
 split at h
 ·omega
 split at h
 ·cases h
 ·cases h
theorem scanU_short : ∀ (f : Nat) (s : List UInt8), s.length ≤ f → (scanU f s).2.1.length ≤ 68
 | 0, s, h => by
  show s.length ≤ 68
  omega
 | f + 1, s, h => by
  unfold scanU
  split
  ·rename_i e
   exact look_short e
  ·rename_i e
   have := look_len e
   exact scanU_short f (s.drop 1) (by rw [List.length_drop]; omega)
  ·rename_i n e
   have := look_len e
   exact scanU_short f (s.drop (n + 5)) (by rw [List.length_drop]; omega)
theorem rest_short (L : List UInt8) : (restOf L).size ≤ 68 := scanU_short _ L (Nat.le_refl _)
theorem ord_err (k : Int) (s : ByteArray) : 0 ≤ (ordR k s).2 ∧ (ordR k s).2 ≤ 3 := by
 unfold ordR
 split
 ·exact ⟨by decide, by decide⟩
 split
 ·exact ⟨by dsimp only; decide, by dsimp only; decide⟩
 split
 ·exact ⟨by dsimp only; decide, by dsimp only; decide⟩
 split
 ·exact ⟨by dsimp only; decide, by dsimp only; decide⟩
 split
 ·exact ⟨by dsimp only; decide, by dsimp only; decide⟩
 split
 ·exact ⟨by dsimp only; decide, by dsimp only; decide⟩
 ·exact ⟨by dsimp only; decide, by dsimp only; decide⟩
theorem law_err : ∀ (fs : List Fra) (S : OrS), 0 ≤ S.2.1 ∧ S.2.1 ≤ 3 → 0 ≤ (fs.foldl lawF S).2.1 ∧ (fs.foldl lawF S).2.1 ≤ 3
 | [], _, h => h
 | f :: fs, S, h => law_err fs (lawF S f) (by
  unfold lawF lawS
  have := ord_err f.1 f.2
  split
  ·split
   ·exact this
   split
   ·exact this
   split
   ·exact this
   ·exact this
  ·exact h)
structure CtI (q : Pl) : Prop where
 c0 : 0 ≤ q.calm
 c1 : q.calm ≤ 2
 g0 : 0 ≤ q.good
 g1 : q.good ≤ 1
 m0 : 0 ≤ q.miss
 m1 : q.miss ≤ 4
 l0 : 0 ≤ q.lost
 l1 : q.lost ≤ 2
theorem cnt_pos {n : Int} (h0 : 0 ≤ n) (h1 : n ≤ 99) (b : Bool) : 0 ≤ cntW n b := by
 unfold cntW
 cases b
 ·exact Int.le_refl 0
 ·simp only [if_true]
  rw [if_neg (by omega), IntKind.wrap_i64]
  omega
theorem ct_zero {m f : Int} : CtI ⟨m, 0, 0, 0, 0, f⟩ := ⟨Int.le_refl 0, show (0 : Int) ≤ 2 by decide, Int.le_refl 0, show (0 : Int) ≤ 1 by decide, Int.le_refl 0, show (0 : Int) ≤ 4 by decide, Int.le_refl 0, show (0 : Int) ≤ 2 by decide⟩
theorem CtI.step {q : Pl} (h : CtI q) (s : Sn) : CtI (nextW q s) := by
 have hc := h.c0; have hc1 := h.c1; have hg := h.g0; have hg1 := h.g1; have hm := h.m0; have hm1 := h.m1; have hl := h.l0; have hl1 := h.l1
 unfold nextW nextV
 split
 ·exact ct_zero
 split
 ·unfold safeS; split
  ·exact ct_zero
  ·exact h
 split
 ·unfold detW; split
  ·exact ct_zero
  ·rename_i k
   exact ⟨cnt_pos hc (by omega) _, by show cntW _ _ ≤ 2; omega, hg, hg1, hm, hm1, hl, hl1⟩
 split
 ·cases s.gap
  ·simp only [cond_false]
   unfold coaW
   cases (s.gyro && !s.slow)
   ·simp only [cond_false]
    split
    ·exact ct_zero
    ·rename_i k
     exact ⟨hc, hc1, cnt_pos hg (by omega) _, by show cntW _ _ ≤ 1; omega, hm, hm1, hl, hl1⟩
   ·exact ct_zero
  ·exact ct_zero
 split
 ·cases s.gap
  ·simp only [cond_false]
   unfold finW
   cases s.bad
   ·simp only [cond_false]
    split
    ·exact ct_zero
    rename_i k
    cases (s.pair && s.lit)
    ·exact ⟨hc, hc1, hg, hg1, hm, hm1, cnt_pos hl (by omega) _, by show cntW _ _ ≤ 2; omega⟩
    ·simp only [cond_true]
     split
     ·exact ct_zero
     ·rename_i k2
      exact ⟨hc, hc1, hg, hg1, cnt_pos hm (by omega) _, by show cntW _ _ ≤ 4; omega, cnt_pos hl (by omega) _, by show cntW _ _ ≤ 2; omega⟩
   ·exact ct_zero
  ·exact ct_zero
 ·exact ct_zero
structure HoI (c : Cra) : Prop where
 ct : CtI (plOf (cPlan c))
 e0 : 0 ≤ (cAcks c).2.1
 e3 : (cAcks c).2.1 ≤ 3
 left : c.2.2.1.size ≤ 68
 fin : FinI c
theorem HoI.zero : HoI zeroCra := ⟨ct_zero, Int.le_refl 0, show (0 : Int) ≤ 3 by decide, Nat.zero_le _, FinI.zero⟩
theorem HoI.step {F : Fs} (hF : FsNq F) {c : Cra} (h : HoI c) {t : Int} (b : ByteArray) (hs : stays c t = false) (k : Took F c t b (stepF F c t b).1) : HoI (stepF F c t b).1 := by
 have hf := step_fine hF b hs
 have ht := st_take hF.is c t b
 have hd := st_step (F := F) c t b (takeW F c t b)
 obtain ⟨e, _, _⟩ := stays_no hF.is hs b
 rw [← e] at hd
 have he : (cAcks (stepF F c t b).1).2.1 = (((frsOf c b).map fraOf).foldl lawF (begS c)).2.1 := by
  rw [hd.1, ← ht]
  rfl
 have hl := law_err ((frsOf c b).map fraOf) (begS c) ⟨h.e0, h.e3⟩
 refine ⟨?_, by omega, by omega, by rw [k.left]; exact rest_short _, hf⟩
 obtain ⟨p, s, hp, _, _, _, hn⟩ := k.plan
 have hq : CtI (plOf p) := by
  rcases hp with e | e <;> rw [e]
  ·exact h.ct
  ·exact ⟨h.ct.c0, h.ct.c1, h.ct.g0, h.ct.g1, h.ct.m0, h.ct.m1, h.ct.l0, h.ct.l1⟩
 rcases hn with e | ⟨_, _, e⟩
 ·rw [e]
  exact hq.step (snOf s)
 ·rw [e]
  exact ct_zero
theorem HoI.held {c : Cra} (h : HoI c) (hc : CInv c) : HldI c := by
 have a := hc.p; have b := hc.ak; have q := h.ct
 have m0 : 0 ≤ (cPlan c).1 := a.m0
 have m3 : (cPlan c).1 ≤ 3 := a.m3
 have f0 : 0 ≤ (cPlan c).2.2.2.2.2.1 := a.f0
 have f9 : (cPlan c).2.2.2.2.2.1 ≤ 15 := a.f9
 have q1 : 0 ≤ (cPlan c).2.1 := q.c0
 have q2 : (cPlan c).2.1 ≤ 2 := q.c1
 have q3 : 0 ≤ (cPlan c).2.2.1 := q.g0
 have q4 : (cPlan c).2.2.1 ≤ 1 := q.g1
 have q5 : 0 ≤ (cPlan c).2.2.2.1 := q.m0
 have q6 : (cPlan c).2.2.2.1 ≤ 4 := q.m1
 have q7 : 0 ≤ (cPlan c).2.2.2.2.1 := q.l0
 have q8 : (cPlan c).2.2.2.2.1 ≤ 2 := q.l1
 have b0 := b.a0; have b1 := b.a1; have b4 : 0 ≤ cRej c := b.r0; have b5 : cRej c ≤ 65535 := b.r1; have b2 := h.e0; have b3 := h.e3; have hl := h.left
 refine ⟨?_, ?_, h.fin⟩
 ·unfold hldA
  rw [decide_eq_false (by omega), decide_eq_false (by omega), decide_eq_false (by omega), decide_eq_false (by omega), decide_eq_false (by show ¬ cRej c < 0; omega), decide_eq_false (by show ¬ cRej c > 65535; omega), decide_eq_false (by omega), decide_eq_false (by omega), decide_eq_false (by omega), decide_eq_false (by omega), decide_eq_false (by omega)]
  simp
 ·unfold hldB
  rw [decide_eq_false (by omega), decide_eq_false (by omega), decide_eq_false (by omega), decide_eq_false (by omega), decide_eq_false (by omega), decide_eq_false (by omega), decide_eq_false (by omega), decide_eq_false (by omega)]
  simp
end Go.Proofs.YtbophanlmkbfeaaGreatDoor
namespace Go.Proofs.YtbophanlmkbfeaaGreatDoor
open Go.RowKit
def hoEq (P : Program) (a d : Cra) : Bool := (cmpV P 8 42 (.agg (dCra.enc a).toArray) (.agg (dCra.enc d).toArray)).getD false
theorem hoEq_self (a : Cra) : hoEq Tryz.prog a a = true := by
 have hs : (cmpV Tryz.prog 8 42 (.agg (dCra.enc a).toArray) (.agg (dCra.enc a).toArray)).isSome = true := by kernel_rfl
 unfold hoEq
 cases h : cmpV Tryz.prog 8 42 (.agg (dCra.enc a).toArray) (.agg (dCra.enc a).toArray) with
 | none => rw [h] at hs; cases hs
 | some r =>
  have h1 := cmp_at 8 _ _ _ _ h 9992 (default : World)
  have h2 := craft_self a (default : World)
  rw [h1] at h2
  cases h2
  rfl
def laterT (x : Int × Int) : Int := IntKind.i64.wrap (x.1 + gapW x.2)
theorem later_fx : PureOk Tryz.prog 8 (then' cI (lone' cI)) laterT cI := pure_sx (tbl := []) (dirty := fun _ => []) (n := 4) xmixA Tryz.func8 rfl (fun x Post => by kernel_rfl)
def laterCt : Ct Tryz.prog := pureCt Tryz.prog 8 (then' cI (lone' cI)) laterT cI (go_of Tryz.func8 (by kernel_rfl) (by kernel_rfl)) later_fx
theorem told_size (T : Tl) : (bytesOf T).size = 31 := by
 have hn : (strOf (tlL T)).data.toList.length = 26 := tlStr_size T
 have hw := wrapL_length 32 (strOf (tlL T)).data.toList
 have hb : (bytesOf T).size = (wrapL 32 (strOf (tlL T)).data.toList).length := rfl
 omega
def openCt : Ct Tryz.prog := predCt Tryz.prog 10 (lone' cS) (fun s K => ToldOk s ∧ K ((two' cFra cB).enc ((32, (ropenS s).2.1), true))) (fun _ _ _ hK hs => ⟨hs.1, hK _ hs.2⟩) (go_of Tryz.func10 (by kernel_rfl) (by kernel_rfl))
 (fun s w _ K hs => by
  obtain ⟨⟨T, hT, rfl⟩, hk⟩ := hs
  have h := ropen_any (bytesOf T) w (by rw [told_size]; decide)
  rw [opens_told] at h hk
  refine Calls.mono h ?_
  rintro e w' ⟨rfl, hb⟩
  exact ⟨_, rfl, rfl, hk, hb⟩)
def TelOk (x : ByteArray) : Prop := ∃ T, tlOk T = true ∧ x = strOf (tlL T)
def readCt : Ct Tryz.prog := predCt Tryz.prog 11 (lone' cFra) (fun f K => f.1 = 32 ∧ TelOk f.2 ∧ K (kTel.enc (tlT (tlE f.2), true))) (fun _ _ _ hK hs => ⟨hs.1, hs.2.1, hK _ hs.2.2⟩) (go_of Tryz.func11 (by kernel_rfl) (by kernel_rfl))
 (fun f w hw K hs => by
  obtain ⟨k, x⟩ := f
  obtain ⟨h1, ⟨T, hT, h2⟩, hk⟩ := hs
  dsimp only at h1 h2 hk
  subst h1 h2
  refine Calls.mono (rtread_yes (strOf (tlL T)) w hw (tlStr_size T) (by rw [tl_back hT]; exact hT) (T := tlT (tlE (strOf (tlL T)))) rfl) ?_
  rintro e w' ⟨rfl, hb⟩
  exact ⟨_, rfl, rfl, hk, hb⟩)
theorem cra_of {d : Cra} {t : Int} (h1 : d.1 = true) (h2 : d.2.1 = t) : ((true, t, d.2.2) : Cra) = d := by
 subst h2
 rw [← h1]
set_option maxRecDepth 100000 in
theorem awake18_at {F : Fs} (hF : FsIs F) : PureOk Tryz.prog 6 none' (fun _ => true) cB := fun x w hw => by
 obtain ⟨h1, h2, _, hi⟩ := first_step hF
 have h2 : (stepF F zeroCra 5 noBytes).1.2.1 = 5 := h2
 have hb := (took hF CInv.zero noBytes (show stays zeroCra 5 = false from rfl)).2
 have hst : ∀ w, GW w → Calls Tryz.prog 9 ((then' cCra (then' cI (lone' cS))).enc (zeroCra, 5, noBytes)).toArray w fun e w' => e = .returned ((two' cCra cS).enc ((true, 5, (stepF F zeroCra 5 noBytes).1.2.2), bytesOf (tlOf (telF F (stepF F zeroCra 5 noBytes).1)))) ∧ Below w.heap.size w w' := fun w hw => by
  have := stepF_at hF.ok zeroCra 5 noBytes (show (0 : Nat) ≤ 5000 by decide) w hw
  rw [hb] at this
  rw [cra_of h1 h2]
  exact this
 have hz := told_size (tlOf (telF F (stepF F zeroCra 5 noBytes).1))
 generalize bytesOf (tlOf (telF F (stepF F zeroCra 5 noBytes).1)) = s at hst hz
 generalize (stepF F zeroCra 5 noBytes).1.2.2 = e at hst
 refine pure_at (d := none') (k := cB) (x := ()) (y := true) (tbl := [ctAt Tryz.prog 9 (then' cCra (then' cI (lone' cS))) (two' cCra cS) (zeroCra, 5, noBytes) ((true, 5, e), s) (go_of Tryz.func9 (by kernel_rfl) (by kernel_rfl)) hst]) (dirty := fun _ => []) (n := 4) xmixA Tryz.func6 rfl (fun Post hP => ?_) w hw
 refine Eq.mpr (β := (then' cCra (then' cI (lone' cS))).enc (zeroCra, 5, noBytes) = (then' cCra (then' cI (lone' cS))).enc (zeroCra, 5, noBytes) ∧ Post (.bool (decide (((s.size : Nat) : Int) = 31)))) (by kernel_rfl) ⟨rfl, ?_⟩
 rw [hz]
 exact hP
def awakeCt (F : Fs) (hF : FsIs F) : Ct Tryz.prog := pureCt Tryz.prog 6 none' (fun _ => true) cB (go_of Tryz.func6 (by kernel_rfl) (by kernel_rfl)) (awake18_at hF)
def hoK : List Nat := [5, 6, 30, 31, 29]
def hoF (t n i : Int) (sl : Value) (d : Nat → Value) : List Value := frm [(5, ptr 1), (6, .int .i64 t), (30, .int .i64 n), (31, .int .i64 i), (29, sl)] d 104
def hoE (t n i : Int) (sl : Value) (d : Nat → Value) : List Value := vset ((hoF t n i sl d).set 32 (.bool (decide (i < n)))) (.tmp 32) false
def hoC (c : Cra) : Xm := [[], dCra.enc c]
def hoT (F : Fs) (hF : FsIs F) : List (Ct Tryz.prog) := [awakeCt F hF, laterCt, stepCt F hF, openCt, readCt, heldCt]
def hoG (nn : Nat) (L : Nat → Int × ByteArray) (sl : Value) (ops : Array Oper) (K : List Value → Xm → Prop) (vt : List Value) (m : Xm) : Prop :=
 vt.getD 1 undef = sl ∧ vt.length = 104 ∧ ∀ b, (b = true → nn ≤ 30 ∧ remS L 0 nn ≤ 3000) → vseq Tryz.prog [] ops (nid 0 ops) K [2, 3, 4, 5, 6, 7, 8, 9, 10] ((vt.set 17 sl).set 18 (.bool b)) m
def hoO (F : Fs) (hF : FsIs F) (nn : Nat) (L : Nat → Int × ByteArray) (sl : Value) : Ov := fun id => match id with
 | 3 => some fun ops _ => hoG nn L sl ops
 | 7 => some fun _ _ K => rLen 1 29 30 31 104 nn sl (forget hoK 104 2 K)
 | 9 => some fun _ _ => eRec 29 31 33 34 8 2 104 nn L sl
 | 20 => some (cutBy Tryz.prog (hoT F hF) (fun _ => []) 20 hoK 104 2)
 | _ => none
def hoB (P : Program) : Code := cpart [true, true, true, true, true, false, true] (bodyOf P 3)
def hoL (P : Program) : Code := cpart [false, false] (hoB P)
def hoZ (P : Program) : Code := cpart [true, true, true, true, true, true] (bodyOf P 3)
def hoFn (P : Program) : Func := fnOf P 3
section
variable (F : Fs) (hF : FsIs F) (nn : Nat) (L : Nat → Int × ByteArray) (sl : Value)
abbrev hoS (k : Nat) (c : Code) : VQ → List Value → Xm → Prop := swpO Tryz.prog (hoT F hF) (fun _ => []) k (hoO F hF nn L sl) c
def hoN (t n i : Int) (Q : VQ) (c : Cra) : Prop := 104 = 104 ∧ (ptrOk 2 sl && true) = true ∧ ∀ d, Q .normal (hoF t n (IntKind.i64.wrap (i + 1)) sl d) (hoC c)
def hoA (Post : Value → Prop) (t n i : Int) (Q : VQ) (c : Cra) : Prop := vif (!hoEq Tryz.prog c c) (Post (.bool false)) (hoN sl t n i Q c)
def hoY (Post : Value → Prop) (t n i : Int) (Q : VQ) (d : Cra) (s : ByteArray) : Prop :=
 ToldOk s ∧ (32 : Int) = 32 ∧ TelOk (ropenS s).2.1 ∧ noneV (Post (.bool false)) (HldI d ∧ hoN sl t n i Q d) [!decide ((readS s).m = (cPlan d).1), !decide ((readS s).t = t), !decide ((readS s).rj = cRej d), !decide ((readS s).fa = (cPlan d).2.2.2.2.2.1)]
set_option maxRecDepth 100000 in
theorem ho_round (k : Nat) (t n i : Int) (d : Nat → Value) (c : Cra) (Post : Value → Prop) (Q : VQ) :
    hoS F hF nn L sl k (hoL Tryz.prog) (retOf Tryz.prog (hoFn Tryz.prog) Post Q) (hoF t n i sl d) (hoC c) =
      vif (decide (i < n)) ((0 ≤ i ∧ i.toNat < nn) ∧ sl = sl ∧ 2 = 2 ∧ 104 = 104 ∧ StepOk (c, laterT (t, (L i.toNat).1), (L i.toNat).2) ∧
        vif (stays c (laterT (t, (L i.toNat).1))) (hoA sl Post (laterT (t, (L i.toNat).1)) n i Q c)
          (hoY sl Post (laterT (t, (L i.toNat).1)) n i Q (stepF F c (laterT (t, (L i.toNat).1)) (L i.toNat).2).1 (bytesOf (tlOf (telF F (stepF F c (laterT (t, (L i.toNat).1)) (L i.toNat).2).1)))))
      (Q (.exit 0) (hoE t n i sl d) (hoC c)) := by kernel_rfl
set_option maxRecDepth 100000 in
theorem ho_end (k : Nat) (t n i : Int) (d : Nat → Value) (c : Cra) (Post : Value → Prop) :
    hoS F hF nn L sl k (hoZ Tryz.prog) (retQ Tryz.prog (hoFn Tryz.prog) (fun v _ => Post v)) (hoE t n i sl d) (hoC c) = Post (.bool true) := by kernel_rfl
def hoQ (k : Nat) (Q : VQ) : VQ := fun e vt m => match e with
 | .normal => hoS F hF nn L sl k (hoZ Tryz.prog) Q vt m
 | e => Q e vt m
def hoX (k : Nat) (t : Int) (Q : VQ) : Prop := sl = sl ∧ 104 = 104 ∧ 104 = 104 ∧ (ptrOk 2 sl && true) = true ∧ ∀ d, hoS F hF nn L sl k (hoB Tryz.prog) (hoQ F hF nn L sl k Q) (hoF t nn 0 sl d) (hoC zeroCra)
set_option maxRecDepth 100000 in
theorem ho_start (k : Nat) (t : Int) (Post : Value → Prop) :
    hoS F hF nn L sl k (bodyOf Tryz.prog 3) (retQ Tryz.prog (hoFn Tryz.prog) (fun v _ => Post v)) ([.int .i64 t, sl] ++ List.replicate ((fnOf Tryz.prog 3).ntmps - 2) undef) [[]] =
      (sl = sl ∧ 104 = 104 ∧ ∀ b, (b = true → nn ≤ 30 ∧ remS L 0 nn ≤ 3000) → vif (!b) (Post (.bool true)) (vif (decide (t < 0)) (Post (.bool true)) (vif (decide (t > 157766400000)) (Post (.bool true)) (hoX F hF nn L sl k t (retQ Tryz.prog (hoFn Tryz.prog) (fun v _ => Post v)))))) := by kernel_rfl
end
end Go.Proofs.YtbophanlmkbfeaaGreatDoor
