/-
  A root's numbers are too small for the points to go bad: where points are none, all are 0; for the seat Ytpjobkbefgehjaa. No Go text in sight.
-/
import Derived.Test.YtpjobkbefgehjaaJB
namespace Go.Proofs.Ytpjobkbefgehjaa
open Go.RowKit

/-- Numbers of at most 2^52. -/
def Low (x : Int) : Prop := -4503599627370496 ≤ x ∧ x ≤ 4503599627370496
theorem Low.nought : Low 0 := ⟨by decide, by decide⟩
theorem sq_low {x : Int} (h : (mulS false x x).2 = false) : Low x := by
  have nx : numB x = true := by
    cases hy : numB x
    · have : mulS false x x = (0, true) := by unfold mulS; exact partS_no (by unfold tk; simp [hy])
      rw [this] at h; cases h
    · rfl
  have hx := numB_bd nx
  have hb : tk false [x, x, 1099511627776] = true := by unfold tk; simp [nx, show numB 1099511627776 = true by decide]
  unfold mulS at h
  rw [partS_yes hb (by decide)] at h
  have h' : ¬ (4611686018427387904 < rnd (sz x * sz x) (sz 1099511627776)) := of_decide_eq_false h
  have e : rnd (sz x * sz x) (sz 1099511627776) = (sz x * sz x + 549755813888) / 1099511627776 := rfl
  rw [e] at h'
  have s0 : 0 ≤ sz x ∧ (sz x = x ∨ sz x = -x) := by unfold sz; split <;> omega
  have hs : sz x ≤ 4503599627370496 := by
    by_cases k : sz x ≤ 4503599627370496
    · exact k
    · have := sq_mono (by omega : (0 : Int) ≤ 4503599627370497) (by omega : 4503599627370497 ≤ sz x)
      omega
  unfold Low
  omega
theorem sqrt_low {a : Int} (h : (sqrtS false a).2 = false) : Low (sqrtS false a).1 := by
  unfold sqrtS at h ⊢
  by_cases c : (tk false [a] && decide (0 ≤ a)) = true
  · rw [if_pos c] at h ⊢
    rw [Bool.and_eq_true] at c
    obtain ⟨_, na⟩ := tk_one c.1
    have ha := numB_bd na
    have a0 : 0 ≤ a := of_decide_eq_true c.2
    obtain ⟨i0, i1, _⟩ := isq_spec (a * 1099511627776) (by omega) (by omega)
    generalize isq (a * 1099511627776) = r at h i0 i1 ⊢
    have hr : r ≤ 4503599627370496 := by
      by_cases k : r ≤ 4503599627370496
      · exact k
      · have := sq_mono (by omega : (0 : Int) ≤ 4503599627370497) (by omega : 4503599627370497 ≤ r)
        omega
    unfold out sgnd
    dsimp only
    rw [if_pos (by omega), if_neg (by decide)]
    exact ⟨by omega, hr⟩
  · rw [if_neg c] at h; cases h
theorem less_low {p : Nat → Int} {z : Int × Bool} : ∀ {n : Nat}, (mlessS_l0 p p z n).2 = false → ∀ k, k < n → Low (p k)
  | n + 1, h, k, hk => by
    unfold mlessS_l0 at h
    obtain ⟨h1, _⟩ := sub_a h
    obtain ⟨h2, h3⟩ := mul_a h1
    rcases Nat.lt_succ_iff_lt_or_eq.1 hk with hk | rfl
    · exact less_low h2 k hk
    · exact sq_low h3
theorem root_l1_rest (m : Nat → Int) (i : Nat) (z : (Nat → Int) × Bool) : ∀ j e, (e < i * 6 ∨ i * 6 + j ≤ e) → (mRootS_l1 m i z j).1 e = z.1 e
  | 0, _, _ => rfl
  | j + 1, e, he => by
    unfold mRootS_l1
    dsimp only
    rw [updF_off _ _ (by omega)]
    exact root_l1_rest m i z j e (by omega)
theorem piv_good {s : Int × Bool} (h : (pivS s).2 = false) : s.2 = false ∧ Low (pivS s).1 := by
  unfold pivS at h ⊢
  by_cases c : s.1 < 1
  · rw [if_pos c, sq_true] at h; cases h
  · rw [if_neg c] at h ⊢
    obtain ⟨h1, h2⟩ := ahead (X := fun b => sqrtS b s.1) (by rw [sq_true]) h
    rw [h1]
    exact ⟨rfl, sqrt_low h2⟩
theorem root_low (m : Nat → Int) (b : Bool) : ∀ i, (mRootS_l0 m ((fun _ => 0), b) i).2 = false → ∀ e, Low ((mRootS_l0 m ((fun _ => 0), b) i).1 e)
  | 0, _, _ => Low.nought
  | i + 1, h, e => by
    unfold mRootS_l0 at h ⊢
    have ih := root_low m b i
    generalize mRootS_l0 m ((fun _ => 0), b) i = s at h ih ⊢
    dsimp only at h ⊢
    have hr := root_l1_rest m i (s.1, s.2) i
    have hb : (mRootS_l1 m i (s.1, s.2) i).2 = false → s.2 = false := fun h' => by
      cases k : s.2
      · rfl
      · rw [root_l1_bad (z := (s.1, s.2)) k i] at h'; cases h'
    generalize mRootS_l1 m i (s.1, s.2) i = t at h hr hb ⊢
    rw [mless_is, mpivot_is] at h ⊢
    obtain ⟨h1, h2⟩ := piv_good h
    have hl := less_low h1
    have ht : t.2 = false := by
      cases k : t.2
      · rfl
      · rw [less_bad (z := (m (i * 6 + i), t.2)) k i] at h1; cases h1
    by_cases c : e = i * 6 + i
    · subst c; rw [updF_at]; exact h2
    · rw [updF_off _ _ c]
      by_cases d : i * 6 ≤ e ∧ e < i * 6 + i
      · have := hl (e - i * 6) (by omega)
        rw [show i * 6 + (e - i * 6) = e by omega] at this
        exact this
      · rw [hr e (by omega)]
        exact ih (hb ht) e
theorem zroot_low {b : Bool} {m : Nat → Int} (h : (zRoot6 b m).2 = false) (e : Nat) : Low ((zRoot6 b m).1 e) := by
  rw [← mRoot6_eq] at h ⊢
  unfold mRootS at h ⊢
  dsimp only at h ⊢
  have hl := root_low m b 6
  generalize mRootS_l0 m ((fun _ => 0), b) 6 = s at h hl ⊢
  unfold msoundMS at h ⊢
  cases k : s.2
  · rw [if_neg (by decide)]
    exact hl k e
  · rw [k] at h; cases h
theorem c_is : sqrtS false 7696581394432 = (2909034330719, false) := by decide +kernel
theorem mul_c {x : Int} (h : Low x) : (mulS false 2909034330719 x).2 = false := by
  have nx : numB x = true := by unfold numB; unfold Low at h; simp; omega
  have s0 : 0 ≤ sz x ∧ (sz x = x ∨ sz x = -x) := by unfold sz; split <;> omega
  have hb : sz 2909034330719 * sz x ≤ 2535301200456458802993406410752 := by
    rw [show sz 2909034330719 = 2909034330719 from rfl]
    unfold Low at h
    omega
  obtain ⟨p, e, _⟩ := mulS_near 2909034330719 x (by decide) nx hb
  rw [e]
theorem pts_l1_good {r1 : (Nat → Int) × Bool} (hr : ∀ e, Low (r1.1 e)) (k : Nat) {z : (Nat → Int) × Bool} (h : z.2 = false) : ∀ i, (hPointsS_l1 r1 (2909034330719, false) k z i).2 = false
  | 0 => h
  | i + 1 => by
    rw [hPointsS_l1_succ]
    unfold hPointsS_l1s
    dsimp only
    rw [pts_l1_good hr k h i]
    exact mul_c (hr _)
theorem pts_l0_good {r1 : (Nat → Int) × Bool} (hr : ∀ e, Low (r1.1 e)) {z : (Nat → Int) × Bool} (h : z.2 = false) : ∀ k, (hPointsS_l0 r1 (2909034330719, false) z k).2 = false
  | 0 => h
  | k + 1 => by
    rw [hPointsS_l0_succ]
    unfold hPointsS_l0s
    exact pts_l1_good hr k (z := ((hPointsS_l0 r1 (2909034330719, false) z k).1, (hPointsS_l0 r1 (2909034330719, false) z k).2)) (pts_l0_good hr h k) 6
theorem pts_l1_none (r1 : (Nat → Int) × Bool) (r3 : Int × Bool) (k : Nat) {z : (Nat → Int) × Bool} (h : z.2 = true) (hz : ∀ e, z.1 e = 0) : ∀ i e, (hPointsS_l1 r1 r3 k z i).1 e = 0
  | 0, e => hz e
  | i + 1, e => by
    rw [hPointsS_l1_succ]
    unfold hPointsS_l1s
    dsimp only
    rw [pts_l1_bad r1 r3 k h i, mulS_true]
    unfold updF
    split
    · rfl
    · split
      · rfl
      · exact pts_l1_none r1 r3 k h hz i e
theorem pts_l0_none (r1 : (Nat → Int) × Bool) (r3 : Int × Bool) {z : (Nat → Int) × Bool} (h : z.2 = true) (hz : ∀ e, z.1 e = 0) : ∀ k e, (hPointsS_l0 r1 r3 z k).1 e = 0
  | 0, e => hz e
  | k + 1, e => by
    rw [hPointsS_l0_succ]
    unfold hPointsS_l0s
    exact pts_l1_none r1 r3 k (z := ((hPointsS_l0 r1 r3 z k).1, (hPointsS_l0 r1 r3 z k).2)) (pts_l0_bad r1 r3 h k) (pts_l0_none r1 r3 h hz k) 6 e
/-- The document's points are package filter's. -/
theorem points_same (b : Bool) (g : Nat → Int) : fPointsS b g = hPointsS b g := by
  cases h : (hPointsS b g).2
  · exact fPoints_good h
  · rw [fPoints_is, h, if_pos rfl]
    refine Prod.ext (funext fun e => ?_) h.symm
    dsimp only
    rw [hPoints_is] at h ⊢
    cases k : (zRoot6 b (fun x_ => g (7 + x_))).2
    · rw [k, c_is] at h
      have := pts_l0_good (r1 := zRoot6 b (fun x_ => g (7 + x_))) (zroot_low k) (z := ((fun _ => 0), false)) rfl 6
      rw [this] at h
      cases h
    · rw [sq_true]
      exact (pts_l0_none _ _ rfl (fun _ => rfl) 6 e).symm
end Go.Proofs.Ytpjobkbefgehjaa
