/-
  Of matrices that are heavy on the diagonal a root is there, and its square is nearly the matrix, for the seat Ytcnbcdnjogopdaa. No Go text in sight.
-/
import Derived.Test.YtcnbcdnjogopdaaKRoot
namespace Go.Proofs.Ytcnbcdnjogopdaa
open Go.RowKit

theorem am_bd {m L : Nat → Nat → Int} {n i t a b : Nat} (H : Heavy m n) (hi : i < n) (R : Rows6 m L i) (T : RowTo m L i t) (ht : t ≤ i) (ha : t ≤ a) (ha' : a ≤ i) (hb : t ≤ b) (hb' : b ≤ i) : Ab (Am m L t a b) 1099511627776 := by
  obtain ⟨D, B⟩ := dom_to H hi R T ht
  have u := B a ha ha'
  have n6 := H.n6
  by_cases c : b = a
  · subst c
    have := D.diag ha (by omega)
    exact ⟨by omega, u⟩
  · have := D.term ha (by omega) hb (by omega) c
    exact (az_ab (Int.le_refl _)).le (by omega)
theorem lft_ub {m L : Nat → Nat → Int} {i j t : Nat} (R : Rows6 m L i) (T : RowTo m L i j) (hj : j ≤ i) (ht : t < j) : Ab (L i t) 1099511627776 ∧ Ab (L j t) 1099511627776 := by
  refine ⟨(T t ht).ub, ?_⟩
  by_cases c : j < i
  · exact ((R j c).2 t ht).ub
  · rw [show j = i by omega]; exact (T t ht).ub
theorem pr_bd {L : Nat → Nat → Int} {a b k : Nat} (ha : Ab (L a k) 1099511627776) (hb : Ab (L b k) 1099511627776) : Ab (pr L a b k) 1099511627777 := prod_bd ha hb (mul_is ha hb).2 (by decide)
theorem subs_is {m L : Nat → Nat → Int} {n i j : Nat} (H : Heavy m n) (hi : i < n) (R : Rows6 m L i) (T : RowTo m L i j) (hj : j ≤ i) : ∀ {t : Nat}, t ≤ j → subsS false (m i j) (L i) (L j) t = (Am m L t i j, false)
  | 0, _ => by rw [Am_zero]; rfl
  | t + 1, ht => by
    obtain ⟨u1, u2⟩ := lft_ub R T hj (t := t) (by omega)
    have b := am_bd H hi R (t := t) (a := i) (b := j) (fun k hk => T k (by omega)) (by omega) (by omega) (Nat.le_refl _) (by omega) hj
    unfold subsS
    rw [subs_is H hi R T hj (t := t) (by omega)]
    dsimp only
    rw [(mul_is u1 u2).1]
    dsimp only
    rw [sub_near b (pr_bd u1 u2) (by decide) (by decide) (by decide), Am_succ]
theorem piv_le {d P : Int} (h : SqrtR d P) (h2 : P ≤ 1099511627776) (h0 : 0 ≤ P) : P ≤ d := by
  apply Classical.byContradiction
  intro c
  have c' : d + 1 ≤ P := by omega
  have := Int.mul_le_mul c' c' (by have := h.n0; omega) h0
  have := Int.mul_le_mul_of_nonneg_left h2 h0
  have := h.hi
  omega
theorem ent_left {m L : Nat → Nat → Int} {n i j : Nat} (H : Heavy m n) (hi : i < n) (R : Rows6 m L i) (T : RowTo m L i j) (hj : j < i) :
    ∃ v, entS false (m i j) (L i) (L j) i j = (v, false) ∧ divS false (Am m L j i j) (L j j) = (v, false) ∧ DivR v (Am m L j i j) (L j j) ∧ Ab (Am m L j i j) (Am m L j j j) ∧ Ab v 1099511627776 := by
  have n6 := H.n6
  have P := (R j hj).1
  have r := P.root
  obtain ⟨D, _⟩ := dom_to H hi R T (by omega)
  have g := D.term (a := j) (b := i) (Nat.le_refl _) (by omega) (by omega) (by omega) (by omega)
  rw [Am_comm (H.sym j i (by omega) hi)] at g
  have bd : Ab (Am m L j i j) (Am m L j j j) := (az_ab (Int.le_refl _)).le (by omega)
  have le := piv_le P.R P.hi (by have := P.lo; omega)
  obtain ⟨v, ev, U⟩ := div_unit (Am m L j i j) (L j j) ⟨by omega, by omega⟩ ⟨by have := bd.lo; omega, by have := bd.hi; omega⟩
  refine ⟨v, ?_, ev, ⟨by have := U.dn; omega, by have := U.up; omega⟩, bd, ⟨U.lo, U.hi⟩⟩
  unfold entS
  rw [subs_is H hi R T (by omega) (Nat.le_refl _)]
  dsimp only
  rw [if_neg (by omega), ev]
theorem ent_diag {m L : Nat → Nat → Int} {n i : Nat} (H : Heavy m n) (hi : i < n) (R : Rows6 m L i) (T : RowTo m L i i) :
    ∃ d, entS false (m i i) (L i) (L i) i i = (d, false) ∧ sqrtS false (Am m L i i i) = (d, false) ∧ SqrtR d (Am m L i i i) ∧ 1073741000 ≤ Am m L i i i ∧ Am m L i i i ≤ 1099511627776 := by
  have n6 := H.n6
  obtain ⟨D, B⟩ := dom_to H hi R T (Nat.le_refl _)
  have lo := D.diag (a := i) (Nat.le_refl _) (by omega)
  have hi' := B i (Nat.le_refl _) (Nat.le_refl _)
  obtain ⟨d, ed, S⟩ := sqrt_near (a := Am m L i i i) (by omega) hi'
  refine ⟨d, ?_, ed, S, by omega, hi'⟩
  unfold entS
  rw [subs_is H hi R T (Nat.le_refl _) (Nat.le_refl _)]
  dsimp only
  rw [if_pos rfl, if_neg (by omega), ed]
/-- L' is L in the rows ahead of i, and in row i ahead of column j. -/
structure Agree (L L' : Nat → Nat → Int) (i j : Nat) : Prop where
  rows : ∀ a b, a < i → L' a b = L a b
  row : ∀ b, b < j → L' i b = L i b
theorem Agree.pr {L L' : Nat → Nat → Int} {i j a b k : Nat} (A : Agree L L' i j) (ha : a < i ∨ (a = i ∧ k < j)) (hb : b < i ∨ (b = i ∧ k < j)) : pr L' a b k = pr L a b k := by
  have e1 : L' a k = L a k := by
    rcases ha with h | ⟨rfl, h⟩
    · exact A.rows a k h
    · exact A.row k h
  have e2 : L' b k = L b k := by
    rcases hb with h | ⟨rfl, h⟩
    · exact A.rows b k h
    · exact A.row k h
  show (mulS false (L' a k) (L' b k)).1 = (mulS false (L a k) (L b k)).1
  rw [e1, e2]
theorem Agree.am {m L L' : Nat → Nat → Int} {i j k a b : Nat} (A : Agree L L' i j) (ha : a < i ∨ (a = i ∧ k ≤ j)) (hb : b < i ∨ (b = i ∧ k ≤ j)) : Am m L' k a b = Am m L k a b := by
  unfold Am
  rw [sm_eq fun t ht => A.pr (by omega) (by omega)]
theorem Agree.piv {m L L' : Nat → Nat → Int} {i j a : Nat} (A : Agree L L' i j) (ha : a < i) (P : Piv m L a) : Piv m L' a := by
  have e := A.am (m := m) (k := a) (a := a) (b := a) (Or.inl ha) (Or.inl ha)
  have e2 := A.rows a a ha
  exact ⟨by rw [e, e2]; exact P.sq, by rw [e, e2]; exact P.R, by rw [e]; exact P.lo, by rw [e]; exact P.hi⟩
theorem Agree.lft {m L L' : Nat → Nat → Int} {i j a k : Nat} (A : Agree L L' i j) (hk : k < i) (ha : a < i ∨ (a = i ∧ k < j)) (P : Lft m L a k) : Lft m L' a k := by
  have e := A.am (m := m) (k := k) (a := a) (b := k) (by omega) (Or.inl hk)
  have e1 := A.am (m := m) (k := k) (a := k) (b := k) (Or.inl hk) (Or.inl hk)
  have e2 := A.rows k k hk
  have e3 : L' a k = L a k := by
    rcases ha with h | ⟨rfl, h⟩
    · exact A.rows a k h
    · exact A.row k h
  exact ⟨by rw [e, e2, e3]; exact P.dv, by rw [e, e2, e3]; exact P.R, by rw [e, e1]; exact P.bd, by rw [e3]; exact P.ub⟩
theorem Agree.rows6 {m L L' : Nat → Nat → Int} {i j : Nat} (A : Agree L L' i j) (R : Rows6 m L i) : Rows6 m L' i := fun a ha => ⟨A.piv ha (R a ha).1, fun k hk => A.lft (by omega) (Or.inl ha) ((R a ha).2 k hk)⟩
theorem Agree.rowTo {m L L' : Nat → Nat → Int} {i j : Nat} (A : Agree L L' i j) (hj : j ≤ i) (T : RowTo m L i j) : RowTo m L' i j := fun k hk => A.lft (by omega) (Or.inr ⟨rfl, hk⟩) (T k hk)
theorem agree_set (L : Nat → Nat → Int) (i j : Nat) (v : Int) : Agree L (setM L i j v) i j :=
  ⟨fun a b h => by unfold setM; rw [if_neg (by omega)], fun b h => by unfold setM; rw [if_neg (by omega)]⟩
theorem set_at (L : Nat → Nat → Int) (i j : Nat) (v : Int) : setM L i j v i j = v := by unfold setM; rw [if_pos ⟨rfl, rfl⟩]
/-- A root, up to (i, j). -/
structure Part (m L : Nat → Nat → Int) (i j : Nat) : Prop where
  rows : Rows6 m L i
  row : RowTo m L i j
  zero : ∀ a b, (i < a ∨ a < b ∨ (a = i ∧ j ≤ b)) → L a b = 0
theorem row_good {m : Nat → Nat → Int} {n i : Nat} (H : Heavy m n) (hi : i < n) {l : Nat → Nat → Int} (R : Rows6 m l i) (Z : ∀ a b, (i ≤ a ∨ a < b) → l a b = 0) : ∀ {j : Nat}, j ≤ i → ∃ l', rowS m i (l, false) j = (l', false) ∧ Part m l' i j
  | 0, _ => ⟨l, rfl, R, fun k hk => by omega, fun a b h => Z a b (by omega)⟩
  | j + 1, hj => by
    obtain ⟨l', e, P⟩ := row_good H hi R Z (j := j) (by omega)
    obtain ⟨v, ev, dv, dR, bd, ub⟩ := ent_left H hi P.rows P.row (by omega)
    have A := agree_set l' i j v
    refine ⟨setM l' i j v, ?_, A.rows6 P.rows, fun k hk => ?_, fun a b h => ?_⟩
    · unfold rowS; rw [e]; dsimp only; rw [ev]
    · by_cases c : k < j
      · exact A.lft (by omega) (Or.inr ⟨rfl, c⟩) (P.row k c)
      · have ek : k = j := by omega
        subst ek
        have e0 := A.am (m := m) (k := k) (a := i) (b := k) (Or.inr ⟨rfl, Nat.le_refl _⟩) (Or.inl (by omega))
        have e1 := A.am (m := m) (k := k) (a := k) (b := k) (Or.inl (by omega)) (Or.inl (by omega))
        have e2 := A.rows k k (by omega)
        exact ⟨by rw [e0, e2, set_at]; exact dv, by rw [e0, e2, set_at]; exact dR, by rw [e0, e1]; exact bd, by rw [set_at]; exact ub⟩
    · unfold setM
      rw [if_neg (by omega)]
      exact P.zero a b (by omega)
theorem rows_good {m : Nat → Nat → Int} {n : Nat} (H : Heavy m n) : ∀ {i : Nat}, i ≤ n → ∃ l, rowsS m (fun _ _ => 0, false) i = (l, false) ∧ Rows6 m l i ∧ ∀ a b, (i ≤ a ∨ a < b) → l a b = 0
  | 0, _ => ⟨fun _ _ => 0, rfl, fun a ha => by omega, fun _ _ _ => rfl⟩
  | i + 1, hi => by
    obtain ⟨l, e, R, Z⟩ := rows_good H (i := i) (by omega)
    obtain ⟨l', e', P⟩ := row_good H (by omega) R Z (Nat.le_refl i)
    obtain ⟨d, ed, sq, S, lo, up⟩ := ent_diag H (by omega) P.rows P.row
    have A := agree_set l' i i d
    refine ⟨setM l' i i d, ?_, fun a ha => ?_, fun a b h => ?_⟩
    · unfold rowsS; rw [e]; unfold rowS; rw [e']; dsimp only; rw [ed]
    · by_cases c : a < i
      · exact (A.rows6 P.rows) a c
      · have ea : a = i := by omega
        subst ea
        have e0 := A.am (m := m) (k := a) (a := a) (b := a) (Or.inr ⟨rfl, Nat.le_refl _⟩) (Or.inr ⟨rfl, Nat.le_refl _⟩)
        exact ⟨⟨by rw [e0, set_at]; exact sq, by rw [e0, set_at]; exact S, by rw [e0]; exact lo, by rw [e0]; exact up⟩, A.rowTo (Nat.le_refl _) P.row⟩
    · unfold setM
      rw [if_neg (by omega)]
      exact P.zero a b (by omega)
theorem sumS_comm (bad : Bool) (a b : Nat → Int) : ∀ k, sumS bad a b k = sumS bad b a k
  | 0 => rfl
  | k + 1 => by unfold sumS; rw [sumS_comm bad a b k]; dsimp only; rw [mulS_comm]
/-- A whole root. -/
structure Whole (m L : Nat → Nat → Int) (n : Nat) : Prop where
  rows : Rows6 m L n
  zero : ∀ a b, (n ≤ a ∨ a < b) → L a b = 0
theorem Whole.ub {m L : Nat → Nat → Int} {n : Nat} (W : Whole m L n) (a k : Nat) : Ab (L a k) 1099511627776 := by
  by_cases c : a < n
  · rcases Nat.lt_trichotomy k a with h | rfl | h
    · exact ((W.rows a c).2 k h).ub
    · have := (W.rows k c).1.root
      exact ⟨by omega, by omega⟩
    · rw [W.zero a k (Or.inr h)]; exact ⟨by decide, by decide⟩
  · rw [W.zero a k (Or.inl (by omega))]; exact ⟨by decide, by decide⟩
theorem mul_zero_is {x : Int} (h : Ab x 1099511627776) : mulS false x 0 = (0, false) := by
  obtain ⟨p, e, r⟩ := mul_near h (show Ab 0 1099511627776 from ⟨by decide, by decide⟩) (by decide) (by decide)
  rw [e]
  have := r.lo; have := r.hi
  rw [Int.mul_zero] at *
  rw [show p = 0 by omega]
/-- What the root's own product at (i, j) comes to. -/
theorem last_near {m L : Nat → Nat → Int} {n i j : Nat} (W : Whole m L n) (hi : i < n) (hj : j ≤ i) : Ab (pr L i j j - Am m L j i j) 4 := by
  have r := (mul_is (W.ub i j) (W.ub j j)).2
  have P := (W.rows j (by omega)).1
  have rt := P.root
  by_cases c : j < i
  · have d := ((W.rows i hi).2 j c).R
    have := r.lo; have := r.hi; have := d.lo; have := d.hi
    generalize L i j * L j j = x at *
    constructor <;> omega
  · have e : j = i := by omega
    subst e
    have := r.lo; have := r.hi; have := P.R.lo; have := P.R.hi
    have e2 : (L j j + 1) * (L j j + 1) = L j j * L j j + 2 * L j j + 1 := by grind
    generalize L j j * L j j = x at *
    constructor <;> omega
theorem sums_low {m L : Nat → Nat → Int} {n i j : Nat} (H : Heavy m n) (W : Whole m L n) (hi : i < n) (hj : j ≤ i) : ∀ {t : Nat}, t ≤ j → sumS false (L i) (L j) t = (m i j - Am m L t i j, false) ∧ Ab (m i j - Am m L t i j) 2199023255552
  | 0, _ => by rw [Am_zero]; exact ⟨by rw [Int.sub_self]; rfl, by rw [Int.sub_self]; exact ⟨by decide, by decide⟩⟩
  | t + 1, ht => by
    obtain ⟨e, b⟩ := sums_low H W hi hj (t := t) (by omega)
    have R : Rows6 m L i := fun a ha => W.rows a (by omega)
    have T : RowTo m L i (t + 1) := fun k hk => (W.rows i hi).2 k (by omega)
    have b' := am_bd H hi R T (by omega) (show t + 1 ≤ i by omega) (Nat.le_refl _) ht hj
    refine ⟨?_, ((H.bd i j hi (by omega)).sub b').le (by decide)⟩
    unfold sumS
    rw [e]
    dsimp only
    rw [(mul_is (W.ub i t) (W.ub j t)).1]
    dsimp only
    rw [add_near b (pr_bd (W.ub i t) (W.ub j t)) (by decide) (by decide) (by decide), Am_succ]
    congr 1
    omega
theorem sums_good {m L : Nat → Nat → Int} {n i j : Nat} (H : Heavy m n) (W : Whole m L n) (hi : i < n) (hj : j ≤ i) : ∀ {d : Nat}, sumS false (L i) (L j) (j + 1 + d) = (m i j - Am m L j i j + pr L i j j, false)
  | 0 => by
    obtain ⟨e, b⟩ := sums_low H W hi hj (Nat.le_refl j)
    show sumS false (L i) (L j) (j + 1) = _
    unfold sumS
    rw [e]
    dsimp only
    rw [(mul_is (W.ub i j) (W.ub j j)).1]
    dsimp only
    rw [add_near b (pr_bd (W.ub i j) (W.ub j j)) (by decide) (by decide) (by decide)]
  | d + 1 => by
    obtain ⟨_, b⟩ := sums_low H W hi hj (Nat.le_refl j)
    have b2 := pr_bd (W.ub i j) (W.ub j j)
    show sumS false (L i) (L j) (j + 1 + d + 1) = _
    unfold sumS
    rw [sums_good H W hi hj (d := d)]
    dsimp only
    rw [W.zero j (j + 1 + d) (Or.inr (by omega)), mul_zero_is (W.ub i _)]
    dsimp only
    rw [add_near (b.add b2) (show Ab 0 0 from ⟨by decide, by decide⟩) (by decide) (by decide) (by decide), Int.add_zero]
theorem square_low {m L : Nat → Nat → Int} {n i j : Nat} (H : Heavy m n) (W : Whole m L n) (hi : i < n) (hj : j ≤ i) : ∃ s, sumS false (L i) (L j) n = (s, false) ∧ Ab (s - m i j) 4 := by
  refine ⟨m i j - Am m L j i j + pr L i j j, ?_, ?_⟩
  · have := sums_good H W hi hj (d := n - (j + 1))
    rwa [show j + 1 + (n - (j + 1)) = n by omega] at this
  · have := last_near W hi hj
    rw [show m i j - Am m L j i j + pr L i j j - m i j = pr L i j j - Am m L j i j by omega]
    exact this
/-- The square of the root is nearly the matrix. -/
theorem square_near {m L : Nat → Nat → Int} {n i j : Nat} (H : Heavy m n) (W : Whole m L n) (hi : i < n) (hj : j < n) : ∃ s, sumS false (L i) (L j) n = (s, false) ∧ Ab (s - m i j) 4 := by
  by_cases c : j ≤ i
  · exact square_low H W hi c
  · obtain ⟨s, e, b⟩ := square_low H W hj (show i ≤ j by omega)
    exact ⟨s, by rw [sumS_comm]; exact e, by rw [H.sym i j hi hj]; exact b⟩
end Go.Proofs.Ytcnbcdnjogopdaa
