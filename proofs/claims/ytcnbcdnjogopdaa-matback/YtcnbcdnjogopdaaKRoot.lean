/-
  Roots of matrices, place by place, as the chapter tells them; of matrices that are heavy on the diagonal a root is there, and its square is nearly the matrix, for the seat Ytcnbcdnjogopdaa. No Go text in sight.
-/
import Derived.Test.YtcnbcdnjogopdaaKSum
import Derived.Test.YtcnbcdnjogopdaaVNear
namespace Go.Proofs.Ytcnbcdnjogopdaa
open Go.RowKit

/-- s less the products, one by one. -/
def subsS (bad : Bool) (s : Int) (a b : Nat → Int) : Nat → Int × Bool
  | 0 => (s, bad)
  | k + 1 => let r := subsS bad s a b k; let p := mulS r.2 (a k) (b k); subS p.2 r.1 p.1
/-- The sum of the products, from 0 on. -/
def sumS (bad : Bool) (a b : Nat → Int) : Nat → Int × Bool
  | 0 => (0, bad)
  | k + 1 => let r := sumS bad a b k; let p := mulS r.2 (a k) (b k); addS p.2 r.1 p.1
/-- A place of the root. -/
def entS (bad : Bool) (s : Int) (li lj : Nat → Int) (i j : Nat) : Int × Bool :=
  let r := subsS bad s li lj j
  if i = j then sqrtS (if r.1 < 1 then true else r.2) r.1 else divS r.2 r.1 (lj j)
def setM (l : Nat → Nat → Int) (i j : Nat) (v : Int) : Nat → Nat → Int := fun a b => if a = i ∧ b = j then v else l a b
abbrev LB := (Nat → Nat → Int) × Bool
def rowS (m : Nat → Nat → Int) (i : Nat) (x : LB) : Nat → LB
  | 0 => x
  | j + 1 => let y := rowS m i x j; let e := entS y.2 (m i j) (y.1 i) (y.1 j) i j; (setM y.1 i j e.1, e.2)
def rowsS (m : Nat → Nat → Int) (x : LB) : Nat → LB
  | 0 => x
  | i + 1 => rowS m i (rowsS m x i) (i + 1)

theorem mulS_comm (bad : Bool) (a b : Int) : mulS bad a b = mulS bad b a := by
  cases h : tk bad [a, b]
  · rw [mulS_no h, mulS_no (by rw [← h]; cases bad <;> simp [tk, Bool.and_comm])]
  · rw [mulS_yes h, mulS_yes (by rw [← h]; cases bad <;> simp [tk, Bool.and_comm]), Int.mul_comm (sz a)]
    cases decide (a < 0) <;> cases decide (b < 0) <;> rfl
theorem sqrt_near {a : Int} (h0 : 0 ≤ a) (h1 : a ≤ 1099511627776) : ∃ d, sqrtS false a = (d, false) ∧ SqrtR d a := by
  have hs := isq_spec (a * 1099511627776) (by omega) (by omega)
  have hd : isq (a * 1099511627776) ≤ 1099511627776 := by
    apply Classical.byContradiction
    intro c
    have c' : 1099511627777 ≤ isq (a * 1099511627776) := by omega
    have := Int.mul_le_mul c' c' (by decide) (by omega)
    omega
  refine ⟨isq (a * 1099511627776), ?_, ⟨hs.1, hs.2.1, hs.2.2⟩⟩
  rw [sqrtS_yes (by simp [tk, show numB a = true from numB_of ⟨by omega, by omega⟩]) h0]
  unfold out sgnd
  rw [decide_eq_false (by omega), if_pos (by omega)]
  simp only [Bool.false_eq_true, if_false]
/-- What a pivot takes away at (a, b). -/
def pr (L : Nat → Nat → Int) (a b k : Nat) : Int := (mulS false (L a k) (L b k)).1
/-- What is left at (a, b) behind k pivots. -/
def Am (m L : Nat → Nat → Int) (k a b : Nat) : Int := m a b - sm (pr L a b) k
theorem pr_comm (L : Nat → Nat → Int) (a b k : Nat) : pr L a b k = pr L b a k := by unfold pr; rw [mulS_comm]
theorem Am_comm {m L : Nat → Nat → Int} {k a b : Nat} (h : m a b = m b a) : Am m L k a b = Am m L k b a := by
  unfold Am; rw [h, sm_eq fun t _ => pr_comm L a b t]
theorem Am_succ (m L : Nat → Nat → Int) (k a b : Nat) : Am m L (k + 1) a b = Am m L k a b - pr L a b k := by
  unfold Am; show m a b - (sm (pr L a b) k + pr L a b k) = _; omega
theorem Am_zero (m L : Nat → Nat → Int) (a b : Nat) : Am m L 0 a b = m a b := by unfold Am; show m a b - 0 = _; omega
structure Piv (m L : Nat → Nat → Int) (a : Nat) : Prop where
  sq : sqrtS false (Am m L a a a) = (L a a, false)
  R : SqrtR (L a a) (Am m L a a a)
  lo : 1073741000 ≤ Am m L a a a
  hi : Am m L a a a ≤ 1099511627776
structure Lft (m L : Nat → Nat → Int) (a k : Nat) : Prop where
  dv : divS false (Am m L k a k) (L k k) = (L a k, false)
  R : DivR (L a k) (Am m L k a k) (L k k)
  bd : Ab (Am m L k a k) (Am m L k k k)
  ub : Ab (L a k) 1099511627776
def Rows6 (m L : Nat → Nat → Int) (i : Nat) : Prop := ∀ a, a < i → Piv m L a ∧ ∀ k, k < a → Lft m L a k
def RowTo (m L : Nat → Nat → Int) (i j : Nat) : Prop := ∀ k, k < j → Lft m L i k
structure Heavy (m : Nat → Nat → Int) (n : Nat) : Prop where
  n6 : n ≤ 6
  bd : ∀ a b, a < n → b < n → Ab (m a b) 1099511627776
  sym : ∀ a b, a < n → b < n → m a b = m b a
  dom : Dom m 0 n 1073741824
theorem sm_more {f : Nat → Int} {n : Nat} : ∀ {d : Nat}, (∀ k, k < n + d → 0 ≤ f k) → sm f n ≤ sm f (n + d)
  | 0, _ => Int.le_refl _
  | d + 1, h => by
    have := sm_more (f := f) (n := n) (d := d) (fun k hk => h k (by omega))
    have := h (n + d) (by omega)
    show sm f n ≤ sm f (n + d) + f (n + d)
    omega
theorem Dom.sub {A : Nat → Nat → Int} {j N N' : Nat} {G : Int} (D : Dom A j N' G) (h : N ≤ N') : Dom A j N G := fun a ha ha' => by
  have := D a ha (by omega)
  have := sm_more (f := off A j a) (n := N) (d := N' - N) (fun k _ => off_n A j a k)
  rw [show N + (N' - N) = N' by omega] at this
  omega
theorem Piv.root {m L : Nat → Nat → Int} {a : Nat} (h : Piv m L a) : 34359000000 ≤ L a a ∧ L a a ≤ 1099511627776 := pivot_bd h.R h.lo h.hi
theorem mul_is {L : Nat → Nat → Int} {a b k : Nat} (ha : Ab (L a k) 1099511627776) (hb : Ab (L b k) 1099511627776) : mulS false (L a k) (L b k) = (pr L a b k, false) ∧ MulR (pr L a b k) (L a k) (L b k) := by
  obtain ⟨p, e, h⟩ := mul_near ha hb (by decide) (by decide)
  unfold pr
  rw [e]
  exact ⟨rfl, h⟩
/-- What is left behind j pivots is heavy on the diagonal. -/
theorem dom_to {m L : Nat → Nat → Int} {n i : Nat} (H : Heavy m n) (hi : i < n) (R : Rows6 m L i) : ∀ {j : Nat}, RowTo m L i j → j ≤ i → Dom (Am m L j) j (i + 1) (1073741824 - 24 * j) ∧ ∀ a, j ≤ a → a ≤ i → Am m L j a a ≤ 1099511627776
  | 0, _, _ => by
    have e : Am m L 0 = m := by funext a b; exact Am_zero m L a b
    rw [e]
    exact ⟨by have := H.dom.sub (show i + 1 ≤ n by omega); simpa using this, fun a _ ha => (H.bd a a (by omega) (by omega)).hi⟩
  | j + 1, T, hj => by
    obtain ⟨D, B⟩ := dom_to H hi R (j := j) (fun k hk => T k (by omega)) (by omega)
    have P := (R j (by omega)).1
    have lf : ∀ a, j < a → a < i + 1 → Lft m L a j := fun a h1 h2 => by
      by_cases c : a < i
      · exact (R a c).2 j h1
      · rw [show a = i by omega]; exact T j (by omega)
    have st := D.step (p := fun a b => pr L a b j) (by have := H.n6; omega) (by have := H.n6; omega) (by omega) (fun a h1 h2 => Am_comm (H.sym a j (by omega) (by omega)))
      (fun a b h1 h2 h3 h4 => step_near P.R P.lo P.hi (lf a h1 h2).bd (lf b h3 h4).bd (lf a h1 h2).R (lf b h3 h4).R (mul_is (lf a h1 h2).ub (lf b h3 h4).ub).2)
    have e : Am m L (j + 1) = fun a b => Am m L j a b - pr L a b j := by funext a b; exact Am_succ m L j a b
    rw [e]
    refine ⟨?_, fun a h1 h2 => ?_⟩
    · rw [show (1073741824 : Int) - 24 * ((j + 1 : Nat) : Int) = 1073741824 - 24 * (j : Int) - 24 by omega]; exact st
    · have := B a (by omega) h2
      have := sq_pos (mul_is (lf a (by omega) (by omega)).ub (lf a (by omega) (by omega)).ub).2
      show Am m L j a a - pr L a a j ≤ _
      omega
end Go.Proofs.Ytcnbcdnjogopdaa
