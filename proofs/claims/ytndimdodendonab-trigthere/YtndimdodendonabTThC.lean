/-
  A point's angle, its sine and its cosine: the whole, for the seat Ytndimdodendonab. No Go text in sight.
-/
import Derived.Test.YtndimdodendonabTThB
namespace Go.Proofs.Ytndimdodendonab

theorem low_high_sq (y x : Int) (hy : numB y = true) (hx : numB x = true) : highS y x * highS y x + lowS y x * lowS y x = y * y + x * x := by
  unfold lowS highS
  rw [szw_of y hy, szw_of x hx]
  have a := sz_sq y
  have b := sz_sq x
  split <;> omega
theorem sz_low_high (y x : Int) (hy : numB y = true) (hx : numB x = true) : sz y ≤ highS y x ∧ sz x ≤ highS y x := by
  unfold highS
  rw [szw_of y hy, szw_of x hx]
  split <;> omega
theorem div_to (y n : Int) (hy : numB y = true) (hn : 1099511627776 ≤ n ∧ n ≤ 1099511627776000) (h : sz y ≤ n) : ∃ v, divS false y n = (v, false) ∧ 2 * (v * n) ≤ 2 * (y * 1099511627776) + n ∧ 2 * (y * 1099511627776) ≤ 2 * (v * n) + n := by
  obtain ⟨v, e, h1, h2, _⟩ := partS_near y 1099511627776 n hy (by rfl) (numB_of (by omega)) (by omega) (by
    rw [show sz 1099511627776 = 1099511627776 by rfl]
    omega)
  exact ⟨v, e, h1, h2⟩
theorem there_math (y x n : Int) (hy : numB y = true) (hx : numB x = true) (n1 : n * n ≤ y * y + x * x) (n2 : y * y + x * x < (n + 1) * (n + 1)) (hn : 1099511627776 ≤ n ∧ n ≤ 1099511627776000) :
    ∃ a s c dy dx, atanS false y x = (a, false) ∧ sinA false a = (s, false) ∧ cosA false a = (c, false) ∧ divS false y n = (dy, false) ∧ divS false x n = (dx, false) ∧
      (-2199023255552 ≤ s ∧ s ≤ 2199023255552) ∧ (-2199023255552 ≤ c ∧ c ≤ 2199023255552) ∧ (s - dy ≤ 1024 ∧ -1024 ≤ s - dy) ∧ (c - dx ≤ 1024 ∧ -1024 ≤ c - dx) := by
  have hz : ¬ (y = 0 ∧ x = 0) := by
    rintro ⟨rfl, rfl⟩
    have := sq_mono (by omega : (0 : Int) ≤ 1099511627776) hn.1
    omega
  obtain ⟨t, z, et, ew, t0, t1, _, _, ea⟩ := atanS_yes hy hx hz
  obtain ⟨z', ew', z0, zb, D1, D2⟩ := arc_dir t ⟨t0, t1⟩
  rw [ew] at ew'
  obtain rfl : z = z' := congrArg Prod.fst ew'
  have lh := low_high y x hy hx hz
  obtain ⟨m, em, m1, m2, _, _⟩ := divS_near _ _ lh.1 lh.2.1 lh.2.2
  rw [et] at em
  obtain rfl : t = m := congrArg Prod.fst em
  have sq := low_high_sq y x hy hx
  have w4 : 0 ≤ 4 * z ∧ 4 * z ≤ 1160000000000 := by omega
  have nn := near1 (4 * z) (by omega)
  obtain ⟨fL, fH, Hn⟩ := norm_abs kk (pS (4 * z)) (pC (4 * z)) (lowS y x) (highS y x) t n kk_pos nn.1 nn.2 (pC_low _ w4) (unit_pC _ (by omega)) ⟨lh.1, lh.2.1⟩ lh.2.2.1 hn.1 (by omega) (by omega) (by constructor <;> omega) t0 ⟨D1, D2⟩
  have sl := sz_low_high y x hy hx
  obtain ⟨dy, ey, y1, y2⟩ := div_to y n hy hn (by omega)
  obtain ⟨dx, ex, x1, x2⟩ := div_to x n hx hn (by omega)
  have fb := fin_bd y x (4 * z) (by omega)
  obtain ⟨s, c, es, ec, bs, bc, q⟩ := quad (fin y x (4 * z)) (4 * z) (numB_of (by omega)) w4
  refine ⟨_, s, c, dy, dx, ea, es, ec, ey, ex, bs, bc, ?_⟩
  have fL : Fa (pS (4 * z)) (lowS y x) n := fL
  have fH : Fa (pC (4 * z)) (highS y x) n := fH
  by_cases c1 : szw x < szw y
  · by_cases c2 : x < 0
    · by_cases c3 : y < 0
      · have hf : fin y x (4 * z) = -(3454217652358 - (1727108826179 - 4 * z)) := by
          unfold fin; dsimp only; rw [if_pos c1, if_pos c2, if_pos c3]
        have eL : lowS y x = (-x) := by unfold lowS; rw [if_pos c1, szw_of x hx]; unfold sz; rw [if_pos c2]
        have eH : highS y x = (-y) := by unfold highS; rw [if_pos c1, szw_of y hy]; unfold sz; rw [if_pos c3]
        rw [eL] at fL
        rw [eH] at fH
        have r := q.2.2.2.2.2.2.2 hf
        exact ⟨end_abs (by omega) r.1 (by have g := fH.neg; rwa [Int.neg_neg] at g) y1 y2, end_abs (by omega) r.2 (by have g := fL.neg; rwa [Int.neg_neg] at g) x1 x2⟩
      · have hf : fin y x (4 * z) = 3454217652358 - (1727108826179 - 4 * z) := by
          unfold fin; dsimp only; rw [if_pos c1, if_pos c2, if_neg c3]
        have eL : lowS y x = (-x) := by unfold lowS; rw [if_pos c1, szw_of x hx]; unfold sz; rw [if_pos c2]
        have eH : highS y x = (y) := by unfold highS; rw [if_pos c1, szw_of y hy]; unfold sz; rw [if_neg c3]
        rw [eL] at fL
        rw [eH] at fH
        have r := q.2.2.2.1 hf
        exact ⟨end_abs (by omega) r.1 fH y1 y2, end_abs (by omega) r.2 (by have g := fL.neg; rwa [Int.neg_neg] at g) x1 x2⟩
    · by_cases c3 : y < 0
      · have hf : fin y x (4 * z) = -(1727108826179 - 4 * z) := by
          unfold fin; dsimp only; rw [if_pos c1, if_neg c2, if_pos c3]
        have eL : lowS y x = (x) := by unfold lowS; rw [if_pos c1, szw_of x hx]; unfold sz; rw [if_neg c2]
        have eH : highS y x = (-y) := by unfold highS; rw [if_pos c1, szw_of y hy]; unfold sz; rw [if_pos c3]
        rw [eL] at fL
        rw [eH] at fH
        have r := q.2.2.2.2.2.1 hf
        exact ⟨end_abs (by omega) r.1 (by have g := fH.neg; rwa [Int.neg_neg] at g) y1 y2, end_abs (by omega) r.2 fL x1 x2⟩
      · have hf : fin y x (4 * z) = 1727108826179 - 4 * z := by
          unfold fin; dsimp only; rw [if_pos c1, if_neg c2, if_neg c3]
        have eL : lowS y x = (x) := by unfold lowS; rw [if_pos c1, szw_of x hx]; unfold sz; rw [if_neg c2]
        have eH : highS y x = (y) := by unfold highS; rw [if_pos c1, szw_of y hy]; unfold sz; rw [if_neg c3]
        rw [eL] at fL
        rw [eH] at fH
        have r := q.2.1 hf
        exact ⟨end_abs (by omega) r.1 fH y1 y2, end_abs (by omega) r.2 fL x1 x2⟩
  · by_cases c2 : x < 0
    · by_cases c3 : y < 0
      · have hf : fin y x (4 * z) = -(3454217652358 - 4 * z) := by
          unfold fin; dsimp only; rw [if_neg c1, if_pos c2, if_pos c3]
        have eL : lowS y x = (-y) := by unfold lowS; rw [if_neg c1, szw_of y hy]; unfold sz; rw [if_pos c3]
        have eH : highS y x = (-x) := by unfold highS; rw [if_neg c1, szw_of x hx]; unfold sz; rw [if_pos c2]
        rw [eL] at fL
        rw [eH] at fH
        have r := q.2.2.2.2.2.2.1 hf
        exact ⟨end_abs (by omega) r.1 (by have g := fL.neg; rwa [Int.neg_neg] at g) y1 y2, end_abs (by omega) r.2 (by have g := fH.neg; rwa [Int.neg_neg] at g) x1 x2⟩
      · have hf : fin y x (4 * z) = 3454217652358 - 4 * z := by
          unfold fin; dsimp only; rw [if_neg c1, if_pos c2, if_neg c3]
        have eL : lowS y x = (y) := by unfold lowS; rw [if_neg c1, szw_of y hy]; unfold sz; rw [if_neg c3]
        have eH : highS y x = (-x) := by unfold highS; rw [if_neg c1, szw_of x hx]; unfold sz; rw [if_pos c2]
        rw [eL] at fL
        rw [eH] at fH
        have r := q.2.2.1 hf
        exact ⟨end_abs (by omega) r.1 fL y1 y2, end_abs (by omega) r.2 (by have g := fH.neg; rwa [Int.neg_neg] at g) x1 x2⟩
    · by_cases c3 : y < 0
      · have hf : fin y x (4 * z) = -(4 * z) := by
          unfold fin; dsimp only; rw [if_neg c1, if_neg c2, if_pos c3]
        have eL : lowS y x = (-y) := by unfold lowS; rw [if_neg c1, szw_of y hy]; unfold sz; rw [if_pos c3]
        have eH : highS y x = (x) := by unfold highS; rw [if_neg c1, szw_of x hx]; unfold sz; rw [if_neg c2]
        rw [eL] at fL
        rw [eH] at fH
        have r := q.2.2.2.2.1 hf
        exact ⟨end_abs (by omega) r.1 (by have g := fL.neg; rwa [Int.neg_neg] at g) y1 y2, end_abs (by omega) r.2 fH x1 x2⟩
      · have hf : fin y x (4 * z) = 4 * z := by
          unfold fin; dsimp only; rw [if_neg c1, if_neg c2, if_neg c3]
        have eL : lowS y x = (y) := by unfold lowS; rw [if_neg c1, szw_of y hy]; unfold sz; rw [if_neg c3]
        have eH : highS y x = (x) := by unfold highS; rw [if_neg c1, szw_of x hx]; unfold sz; rw [if_neg c2]
        rw [eL] at fL
        rw [eH] at fH
        have r := q.1 hf
        exact ⟨end_abs (by omega) r.1 fL y1 y2, end_abs (by omega) r.2 fH x1 x2⟩
end Go.Proofs.Ytndimdodendonab
