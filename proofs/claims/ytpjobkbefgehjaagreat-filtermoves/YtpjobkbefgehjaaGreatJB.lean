/-
  Loops that fill rows, and means of thirteen, as the code and as the document work them: the same, for the seat YtpjobkbefgehjaaGreat. No Go text in sight.
  Where package filter's steps are good, and what they come to then, for the seat YtpjobkbefgehjaaGreat. No Go text in sight.
  Where the document's steps of a move are good, and what they come to then; they agree with package filter's, for the seat YtpjobkbefgehjaaGreat. No Go text in sight.
  A move is the document's, for the seat YtpjobkbefgehjaaGreat. No Go text in sight.
-/
import Derived.Test.YtpjobkbefgehjaaGreatJS
import Derived.Test.YtpjobkbefgehjaaGreatJA
namespace Go.Proofs.YtpjobkbefgehjaaGreat
open Go.RowKit

/-! ### Bad stays bad -/
theorem mul_swap (bad : Bool) (a b : Int) : mulS bad a b = mulS bad b a := by
 cases h : tk bad [a, b]
 ·rw [mulS_no h, mulS_no (by rw [← h]; cases bad <;> simp [tk, Bool.and_comm])]
 ·rw [mulS_yes h, mulS_yes (by rw [← h]; cases bad <;> simp [tk, Bool.and_comm]), Int.mul_comm (sz a)]
  cases decide (a < 0) <;> cases decide (b < 0) <;> rfl
theorem pt_true (a p q : Int) : partS true a p q = (0, true) := partS_no (tk_true _)
theorem qMul_true (p q : V4) : (qMulS true p q).2 = true := by
 unfold qMulS
 simp [vScale_true, vAdd_true, vCross_true, mulS_true, vDot_true, subS_true, sound4S_yes]
theorem qTurn_true (q : V4) (v : V3) : (qTurnS true q v).2 = true := by
 unfold qTurnS
 simp [vScale_true, vAdd_true, vCross_true, vSub_true]
theorem qFrom_true (p : V3) : (qFromRodS true p).2 = true := by
 unfold qFromRodS
 simp [vDot_true, addS_true, mulS_true, divS_true, subS_true, qUnit_true]
theorem qTo_true (q : V4) : (qToRodS true q).2 = true := by
 unfold qToRodS
 simp [addS_true, mulS_true, divS_true, soundS_yes]
/-- What is good behind a step was good ahead of it. -/
theorem ahead {α : Type} {b : Bool} {X : Bool → α × Bool} (hX : (X true).2 = true) (h : (X b).2 = false) : b = false ∧ (X false).2 = false := by
 cases b
 ·exact ⟨rfl, h⟩
 ·rw [hX] at h; cases h
theorem add_a {b : Bool} {x y : Int} (h : (addS b x y).2 = false) : b = false ∧ (addS false x y).2 = false := ahead (X := fun b => addS b x y) (by rw [addS_true]) h
theorem sub_a {b : Bool} {x y : Int} (h : (subS b x y).2 = false) : b = false ∧ (subS false x y).2 = false := ahead (X := fun b => subS b x y) (by rw [subS_true]) h
theorem mul_a {b : Bool} {x y : Int} (h : (mulS b x y).2 = false) : b = false ∧ (mulS false x y).2 = false := ahead (X := fun b => mulS b x y) (by rw [mulS_true]) h
theorem part_a {b : Bool} {x y z : Int} (h : (partS b x y z).2 = false) : b = false ∧ (partS false x y z).2 = false := ahead (X := fun b => partS b x y z) (by rw [pt_true]) h
theorem vSub_a {b : Bool} {x y : V3} (h : (vSubS b x y).2 = false) : b = false ∧ (vSubS false x y).2 = false := ahead (X := fun b => vSubS b x y) (by rw [vSub_true]) h
theorem vAdd_a {b : Bool} {x y : V3} (h : (vAddS b x y).2 = false) : b = false ∧ (vAddS false x y).2 = false := ahead (X := fun b => vAddS b x y) (by rw [vAdd_true]) h
theorem vUnit_a {b : Bool} {x : V3} (h : (vUnitS b x).2 = false) : b = false ∧ (vUnitS false x).2 = false := ahead (X := fun b => vUnitS b x) (by rw [vUnit_true]) h
theorem qMul_a {b : Bool} {x y : V4} (h : (qMulS b x y).2 = false) : b = false ∧ (qMulS false x y).2 = false := ahead (X := fun b => qMulS b x y) (qMul_true x y) h
theorem qTurn_a {b : Bool} {x : V4} {y : V3} (h : (qTurnS b x y).2 = false) : b = false ∧ (qTurnS false x y).2 = false := ahead (X := fun b => qTurnS b x y) (qTurn_true x y) h
theorem qFrom_a {b : Bool} {x : V3} (h : (qFromRodS b x).2 = false) : b = false ∧ (qFromRodS false x).2 = false := ahead (X := fun b => qFromRodS b x) (qFrom_true x) h
theorem qTo_a {b : Bool} {x : V4} (h : (qToRodS b x).2 = false) : b = false ∧ (qToRodS false x).2 = false := ahead (X := fun b => qToRodS b x) (qTo_true x) h
theorem qUnit_a {b : Bool} {x : V4} (h : (qUnitS b x).2 = false) : b = false ∧ (qUnitS false x).2 = false := ahead (X := fun b => qUnitS b x) (by rw [qUnit_true]) h
theorem root_a {b : Bool} {m : Nat → Int} (h : (zRoot6 b m).2 = false) : b = false ∧ (zRoot6 false m).2 = false := ahead (X := fun b => zRoot6 b m) rfl h
theorem solve_a {b : Bool} {l p : Nat → Int} (h : (zSolve6 b l p).2 = false) : b = false ∧ (zSolve6 false l p).2 = false := ahead (X := fun b => zSolve6 b l p) rfl h
theorem apply_a {b : Bool} {m p : Nat → Int} (h : (zApply6 b m p).2 = false) : b = false ∧ (zApply6 false m p).2 = false := ahead (X := fun b => zApply6 b m p) rfl h

/-! ### Loops -/
theorem eta2 {α β : Type} (t : α × β) : (t.1, t.2) = t := rfl
theorem updF_at (g : Nat → Int) (o : Nat) (v : Int) : updF g o v o = v := by unfold updF; rw [if_pos rfl]
theorem updF_off (g : Nat → Int) {o i : Nat} (v : Int) (h : i ≠ o) : updF g o v i = g i := by unfold updF; rw [if_neg h]
/-- A loop whose rounds fill places of their own: what it came to, and where it is good. -/
structure Fills (L : Nat → (Nat → Int) × Bool) (G : Nat → Prop) (v : Nat → Nat → Int) (o T W m : Nat) : Prop where
 good : (L m).2 = false ↔ (L 0).2 = false ∧ ∀ k, k < m → G k
 val : (L m).2 = false → ∀ k, k < m → ∀ j, j < W → (L m).1 (o + k * T + j) = v k j
 rest : ∀ i, (∀ k, k < m → i < o + k * T ∨ o + k * T + W ≤ i) → (L m).1 i = (L 0).1 i
theorem fills {L : Nat → (Nat → Int) × Bool} {G : Nat → Prop} {v : Nat → Nat → Int} {o T W n : Nat} (hT : W ≤ T)
  (hs : ∀ k, k < n → ∀ s : (Nat → Int) × Bool, s = L k → (∀ j, j < W → s.1 (o + k * T + j) = (L 0).1 (o + k * T + j)) →
   ((L (k + 1)).2 = false ↔ s.2 = false ∧ G k) ∧ ((L (k + 1)).2 = false → ∀ j, j < W → (L (k + 1)).1 (o + k * T + j) = v k j) ∧ ∀ i, (i < o + k * T ∨ o + k * T + W ≤ i) → (L (k + 1)).1 i = s.1 i) :
  ∀ m, m ≤ n → Fills L G v o T W m
 | 0, _ => ⟨⟨fun h => ⟨h, fun k hk => absurd hk (Nat.not_lt_zero k)⟩, fun h => h.1⟩, fun _ k hk => absurd hk (Nat.not_lt_zero k), fun _ _ => rfl⟩
 | m + 1, hm => by
  have ih := fills hT hs m (by omega)
  have far : ∀ k, k < m → o + k * T + W ≤ o + m * T := fun k hk => by
   have : (k + 1) * T ≤ m * T := Nat.mul_le_mul_right T hk
   rw [Nat.succ_mul] at this
   omega
  obtain ⟨s1, s2, s3⟩ := hs m (by omega) (L m) rfl (fun j hj => ih.rest _ (fun k hk => Or.inr (by have := far k hk; omega)))
  refine ⟨⟨fun h => ?_, fun h => ?_⟩, fun h k hk j hj => ?_, fun i hi => ?_⟩
  ·obtain ⟨e, g⟩ := s1.1 h
   obtain ⟨z, r⟩ := ih.good.1 e
   exact ⟨z, fun k hk => by
    rcases Nat.lt_succ_iff_lt_or_eq.1 hk with hk | rfl
    ·exact r k hk
    ·exact g⟩
  ·exact s1.2 ⟨ih.good.2 ⟨h.1, fun k hk => h.2 k (by omega)⟩, h.2 m (by omega)⟩
  ·obtain ⟨e, g⟩ := s1.1 h
   rcases Nat.lt_succ_iff_lt_or_eq.1 hk with hk | rfl
   ·rw [s3 _ (Or.inl (by have := far k hk; omega))]
    exact ih.val e k hk j hj
   ·exact s2 h j hj
  ·rw [s3 i (hi m (by omega))]
   exact ih.rest i (fun k hk => hi k (by omega))
/-- A round of one step. -/
theorem one_step {X : Bool → Int × Bool} (hX : (X true).2 = true) (b : Bool) : (X b).2 = false ↔ b = false ∧ (X false).2 = false :=
 ⟨fun h => ahead hX h, fun h => by rw [h.1]; exact h.2⟩
theorem one_val {X : Bool → Int × Bool} (hX : (X true).2 = true) {b : Bool} (h : (X b).2 = false) : (X b).1 = (X false).1 := by rw [(ahead hX h).1]

/-! ### Means of thirteen -/
theorem add_twice (b : Bool) (x : Int) : addS (addS b 0 x).2 (addS b 0 x).1 x = addS b x x := by
 cases b
 ·cases hx : numB x
  ·have e1 : addS false 0 x = (0, true) := by unfold addS tk; simp [hx]
   have e2 : addS false x x = (0, true) := by unfold addS tk; simp [hx]
   rw [e1, e2, addS_true]
  ·have e1 : addS false 0 x = (x, false) := by
    unfold addS tk gv
    have h0 : numB 0 = true := by decide
    simp [hx, h0]
   rw [e1]
 ·rw [addS_true, addS_true, addS_true]
theorem mid_l0 {x col : Nat → Int} {i : Nat} (hc : ∀ k, k < 13 → col k = x (k * 6 + i)) (b : Bool) : ∀ k, k ≤ 12 →
  hmiddleS_l0 col (col 0, b) (k + 1) = fmeanS_l0 x i ((addS (addS b 0 (x i)).2 (addS b 0 (x i)).1 (x i)).1, (addS (addS b 0 (x i)).2 (addS b 0 (x i)).1 (x i)).2) k
 | 0, _ => by
  have h0 : col 0 = x i := by rw [hc 0 (by omega)]; congr 1; omega
  show hmiddleS_l0s col 0 (col 0, b) = _
  unfold hmiddleS_l0s fmeanS_l0
  dsimp only
  rw [h0, add_twice]
 | k + 1, hk => by
  have ih := mid_l0 hc b k (by omega)
  show hmiddleS_l0s col (k + 1) (hmiddleS_l0 col (col 0, b) (k + 1)) = fmeanS_l0s x i k _
  rw [ih]
  unfold hmiddleS_l0s fmeanS_l0s
  dsimp only
  rw [hc (k + 1) (by omega)]
theorem mid_eq {x col : Nat → Int} {i : Nat} (hc : ∀ k, k < 13 → col k = x (k * 6 + i)) (b : Bool) : hmiddleS b col = fmeanS b x i := by
 unfold hmiddleS fmeanS
 dsimp only
 rw [mid_l0 hc b 12 (by omega)]
theorem mean_congr {x y : Nat → Int} {i : Nat} (h : ∀ k, k < 13 → x (k * 6 + i) = y (k * 6 + i)) (b : Bool) : fmeanS b x i = fmeanS b y i := by
 rw [← mid_eq (x := x) (col := fun k => x (k * 6 + i)) (fun _ _ => rfl), ← mid_eq (x := y) (col := fun k => x (k * 6 + i)) h]
theorem mean_true (x : Nat → Int) (i : Nat) : (fmeanS true x i).2 = true := by
 have : ∀ (z : Int × Bool) (hz : z.2 = true) (k : Nat), (fmeanS_l0 x i z k).2 = true := fun z hz k => by
  induction k with
  | zero => exact hz
  | succ k ih => rw [fmeanS_l0_succ]; unfold fmeanS_l0s; dsimp only; rw [ih, addS_true]
 unfold fmeanS
 dsimp only
 rw [addS_true, this _ (by rw [addS_true]), pt_true]
theorem mean_a {b : Bool} {x : Nat → Int} {i : Nat} (h : (fmeanS b x i).2 = false) : b = false ∧ (fmeanS false x i).2 = false := ahead (X := fun b => fmeanS b x i) (mean_true x i) h
theorem col_is (x : Nat → Int) (i : Nat) : ∀ n k, k < n → hmeanS_l1 x i (fun _ => 0) n k = x (k * 6 + i)
 | n + 1, k, hk => by
  rw [hmeanS_l1_succ]
  unfold hmeanS_l1s
  by_cases e : k = n
  ·subst e; rw [updF_at]
  ·rw [updF_off _ _ e]; exact col_is x i n k (by omega)
/-- The means of the columns. -/
theorem mean_fills (x : Nat → Int) (b : Bool) : Fills (hmeanS_l0 x ((fun _ => 0), b)) (fun i => (fmeanS false x i).2 = false) (fun i _ => (fmeanS false x i).1) 0 1 1 6 := by
 refine fills (n := 6) (by omega) (fun k hk s hs _ => ?_) 6 (by omega)
 rw [hmeanS_l0_succ, ← hs]
 unfold hmeanS_l0s
 dsimp only
 rw [mid_eq (x := x) (i := k) (fun c hc => col_is x k 13 c hc)]
 have hX := mean_true x k
 refine ⟨one_step (X := fun b => fmeanS b x k) hX s.2, fun h j hj => ?_, fun i hi => updF_off _ _ (by omega)⟩
 obtain rfl : j = 0 := by omega
 rw [show 0 + k * 1 + 0 = k by omega, updF_at]
 exact one_val (X := fun b => fmeanS b x k) hX h

/-! ### Means of products -/
theorem prod_l2 (x y : Nat → Int) (i j : Nat) (b : Bool) : ∀ n, (hproductsS_l2 x y i j ((fun _ => 0), b) n).2 = (fproductsS_l0 x i y j ((fun _ => 0), b) n).2 ∧
  ∀ k, k < n → (hproductsS_l2 x y i j ((fun _ => 0), b) n).1 k = (fproductsS_l0 x i y j ((fun _ => 0), b) n).1 (k * 6)
 | 0 => ⟨rfl, fun k hk => absurd hk (Nat.not_lt_zero k)⟩
 | n + 1 => by
  obtain ⟨h1, h2⟩ := prod_l2 x y i j b n
  rw [hproductsS_l2_succ, fproductsS_l0_succ]
  unfold hproductsS_l2s fproductsS_l0s
  dsimp only
  rw [h1]
  refine ⟨rfl, fun k hk => ?_⟩
  by_cases e : k = n
  ·subst e; rw [updF_at, updF_at]
  ·rw [updF_off _ _ e, updF_off _ _ (by omega)]; exact h2 k (by omega)
theorem prod_eq (x y : Nat → Int) (i j : Nat) (b : Bool) : hmiddleS (hproductsS_l2 x y i j ((fun _ => 0), b) 13).2 (hproductsS_l2 x y i j ((fun _ => 0), b) 13).1 = fproductsS b x i y j := by
 obtain ⟨h1, h2⟩ := prod_l2 x y i j b 13
 unfold fproductsS
 dsimp only
 rw [h1, mid_eq (x := (fproductsS_l0 x i y j ((fun _ => 0), b) 13).1) (i := 0) (fun k hk => by rw [h2 k hk]; rfl)]
theorem prod_true (x y : Nat → Int) (i j : Nat) : (fproductsS true x i y j).2 = true := by
 have : ∀ k, (fproductsS_l0 x i y j ((fun _ => 0), true) k).2 = true := fun k => by
  induction k with
  | zero => rfl
  | succ k ih => rw [fproductsS_l0_succ]; unfold fproductsS_l0s; dsimp only; rw [ih, mulS_true]
 unfold fproductsS
 dsimp only
 rw [this, mean_true]
theorem prod_a {b : Bool} {x y : Nat → Int} {i j : Nat} (h : (fproductsS b x i y j).2 = false) : b = false ∧ (fproductsS false x i y j).2 = false := ahead (X := fun b => fproductsS b x i y j) (prod_true x y i j) h
theorem prod_congr {x y x' y' : Nat → Int} {i j : Nat} (hx : ∀ k, k < 13 → x (k * 6 + i) = x' (k * 6 + i)) (hy : ∀ k, k < 13 → y (k * 6 + j) = y' (k * 6 + j)) (b : Bool) : fproductsS b x i y j = fproductsS b x' i y' j := by
 have : ∀ n, n ≤ 13 → fproductsS_l0 x i y j ((fun _ => 0), b) n = fproductsS_l0 x' i y' j ((fun _ => 0), b) n := fun n => by
  induction n with
  | zero => intro _; rfl
  | succ n ih =>
   intro hn
   rw [fproductsS_l0_succ, fproductsS_l0_succ, ih (by omega)]
   unfold fproductsS_l0s
   dsimp only
   rw [hx n (by omega), hy n (by omega)]
 unfold fproductsS
 rw [this 13 (by omega)]
theorem prod_comm (x : Nat → Int) (i j : Nat) (b : Bool) : fproductsS b x i x j = fproductsS b x j x i := by
 have : ∀ n, fproductsS_l0 x i x j ((fun _ => 0), b) n = fproductsS_l0 x j x i ((fun _ => 0), b) n := fun n => by
  induction n with
  | zero => rfl
  | succ n ih =>
   rw [fproductsS_l0_succ, fproductsS_l0_succ, ih]
   unfold fproductsS_l0s
   rw [mul_swap]
 unfold fproductsS
 rw [this 13]
/-- The mean of products, of all numbers of the rows. -/
theorem prod_row (x y : Nat → Int) (i : Nat) (z : (Nat → Int) × Bool) : Fills (hproductsS_l1 x y i z) (fun j => (fproductsS false x i y j).2 = false) (fun j _ => (fproductsS false x i y j).1) (i * 6) 1 1 6 := by
 refine fills (n := 6) (by omega) (fun j hj s hs _ => ?_) 6 (by omega)
 rw [hproductsS_l1_succ, ← hs]
 unfold hproductsS_l1s
 dsimp only
 rw [prod_eq]
 have hX := prod_true x y i j
 refine ⟨one_step (X := fun b => fproductsS b x i y j) hX s.2, fun h c hc => ?_, fun e he => updF_off _ _ (by omega)⟩
 obtain rfl : c = 0 := by omega
 rw [show i * 6 + j * 1 + 0 = i * 6 + j by omega, updF_at]
 exact one_val (X := fun b => fproductsS b x i y j) hX h
theorem prod_fills (x y : Nat → Int) (b : Bool) : Fills (hproductsS_l0 x y ((fun _ => 0), b)) (fun i => ∀ j, j < 6 → (fproductsS false x i y j).2 = false) (fun i j => (fproductsS false x i y j).1) 0 6 6 6 := by
 refine fills (n := 6) (by omega) (fun i hi s hs _ => ?_) 6 (by omega)
 rw [hproductsS_l0_succ, ← hs]
 unfold hproductsS_l0s
 dsimp only
 have F := prod_row x y i (s.1, s.2)
 refine ⟨F.good, fun h j hj => ?_, fun e he => F.rest e (fun k hk => by omega)⟩
 have := F.val h j hj 0 (by omega)
 rw [show i * 6 + j * 1 + 0 = 0 + i * 6 + j by omega] at this
 exact this
theorem hproducts_is (b : Bool) (x y : Nat → Int) : hproductsS b x y = hproductsS_l0 x y ((fun _ => 0), b) 6 := by
 unfold hproductsS
 exact eta2 _
/-- What the mean of products is good at, and what it is. -/
theorem prod_good (x y : Nat → Int) (b : Bool) : (hproductsS b x y).2 = false ↔ b = false ∧ ∀ i, i < 6 → ∀ j, j < 6 → (fproductsS false x i y j).2 = false := by
 rw [hproducts_is]
 exact (prod_fills x y b).good
theorem prod_val {x y : Nat → Int} {b : Bool} (h : (hproductsS b x y).2 = false) {i j : Nat} (hi : i < 6) (hj : j < 6) : (hproductsS b x y).1 (i * 6 + j) = (fproductsS false x i y j).1 := by
 rw [hproducts_is] at h ⊢
 have := (prod_fills x y b).val h i hi j hj
 rw [show 0 + i * 6 + j = i * 6 + j by omega] at this
 exact this
theorem hmean_is (b : Bool) (x : Nat → Int) : hmeanS b x = hmeanS_l0 x ((fun _ => 0), b) 6 := by
 unfold hmeanS
 exact eta2 _
theorem mean_good (x : Nat → Int) (b : Bool) : (hmeanS b x).2 = false ↔ b = false ∧ ∀ i, i < 6 → (fmeanS false x i).2 = false := by
 rw [hmean_is]
 exact (mean_fills x b).good
theorem mean_val {x : Nat → Int} {b : Bool} (h : (hmeanS b x).2 = false) {i : Nat} (hi : i < 6) : (hmeanS b x).1 i = (fmeanS false x i).1 := by
 rw [hmean_is] at h ⊢
 have := (mean_fills x b).val h i hi 0 (by omega)
 rw [show 0 + i * 1 + 0 = i by omega] at this
 exact this

/-! ### Differences -/
theorem less_fills (p q : Nat → Int) (b : Bool) : Fills (hlessS_l0 q (p, b)) (fun i => (subS false (p i) (q i)).2 = false) (fun i _ => (subS false (p i) (q i)).1) 0 1 1 6 := by
 refine fills (n := 6) (by omega) (fun i hi s hs ho => ?_) 6 (by omega)
 have h0 := ho 0 (by omega)
 rw [show 0 + i * 1 + 0 = i by omega] at h0
 rw [hlessS_l0_succ, ← hs]
 unfold hlessS_l0s
 dsimp only
 rw [show s.1 i = p i from h0]
 have hX : (subS true (p i) (q i)).2 = true := by rw [subS_true]
 refine ⟨one_step (X := fun b => subS b (p i) (q i)) hX s.2, fun h c hc => ?_, fun e he => updF_off _ _ (by omega)⟩
 obtain rfl : c = 0 := by omega
 rw [show 0 + i * 1 + 0 = i by omega, updF_at]
 exact one_val (X := fun b => subS b (p i) (q i)) hX h
theorem hless_is (b : Bool) (p q : Nat → Int) : hlessS b p q = hlessS_l0 q (p, b) 6 := by
 unfold hlessS
 exact eta2 _
theorem less_good (p q : Nat → Int) (b : Bool) : (hlessS b p q).2 = false ↔ b = false ∧ ∀ i, i < 6 → (subS false (p i) (q i)).2 = false := by
 rw [hless_is]
 exact (less_fills p q b).good
theorem less_val {p q : Nat → Int} {b : Bool} (h : (hlessS b p q).2 = false) {i : Nat} (hi : i < 6) : (hlessS b p q).1 i = (subS false (p i) (q i)).1 := by
 rw [hless_is] at h ⊢
 have := (less_fills p q b).val h i hi 0 (by omega)
 rw [show 0 + i * 1 + 0 = i by omega] at this
 exact this
/-- Six cells, one behind the other. -/
def put6 (g : Nat → Int) (o : Nat) (v : Nat → Int) : Nat → Int := updF (updF (updF (updF (updF (updF g o (v 0)) (o + 1) (v 1)) (o + 2) (v 2)) (o + 3) (v 3)) (o + 4) (v 4)) (o + 5) (v 5)
theorem put6_at (g : Nat → Int) (o : Nat) (v : Nat → Int) {j : Nat} (hj : j < 6) : put6 g o v (o + j) = v j := by
 unfold put6 updF
 have : j = 0 ∨ j = 1 ∨ j = 2 ∨ j = 3 ∨ j = 4 ∨ j = 5 := by omega
 rcases this with rfl | rfl | rfl | rfl | rfl | rfl <;> simp
theorem put6_off (g : Nat → Int) (o : Nat) (v : Nat → Int) {i : Nat} (hi : i < o ∨ o + 6 ≤ i) : put6 g o v i = g i := by
 unfold put6 updF
 rw [if_neg (by omega), if_neg (by omega), if_neg (by omega), if_neg (by omega), if_neg (by omega), if_neg (by omega)]
theorem beside_fills (x m : Nat → Int) (b : Bool) : Fills (hbesideS_l0 m (x, b)) (fun k => ∀ i, i < 6 → (subS false (x (k * 6 + i)) (m i)).2 = false) (fun k i => (subS false (x (k * 6 + i)) (m i)).1) 0 6 6 13 := by
 refine fills (n := 13) (by omega) (fun k hk s hs ho => ?_) 13 (by omega)
 rw [hbesideS_l0_succ, ← hs]
 have e : ∀ i, i < 6 → s.1 (k * 6 + i) = x (k * 6 + i) := fun i hi => by
  have := ho i hi
  rw [show 0 + k * 6 + i = k * 6 + i by omega] at this
  exact this
 show ((hlessS s.2 (fun x_ => s.1 (k * 6 + x_)) m).2 = false ↔ _) ∧ ((hlessS s.2 (fun x_ => s.1 (k * 6 + x_)) m).2 = false → ∀ j, j < 6 → put6 s.1 (k * 6) (hlessS s.2 (fun x_ => s.1 (k * 6 + x_)) m).1 (0 + k * 6 + j) = _) ∧ ∀ i, _ → put6 s.1 (k * 6) (hlessS s.2 (fun x_ => s.1 (k * 6 + x_)) m).1 i = s.1 i
 refine ⟨?_, fun h j hj => ?_, fun i hi => put6_off _ _ _ (by omega)⟩
 ·rw [less_good]
  constructor
  ·rintro ⟨h, g⟩
   exact ⟨h, fun i hi => by rw [← e i hi]; exact g i hi⟩
  ·rintro ⟨h, g⟩
   exact ⟨h, fun i hi => by rw [e i hi]; exact g i hi⟩
 ·rw [show 0 + k * 6 + j = k * 6 + j by omega, put6_at _ _ _ hj, less_val h hj, e j hj]
theorem hbeside_is (b : Bool) (x m : Nat → Int) : hbesideS b x m = hbesideS_l0 m (x, b) 13 := by
 unfold hbesideS
 exact eta2 _
theorem beside_good (x m : Nat → Int) (b : Bool) : (hbesideS b x m).2 = false ↔ b = false ∧ ∀ k, k < 13 → ∀ i, i < 6 → (subS false (x (k * 6 + i)) (m i)).2 = false := by
 rw [hbeside_is]
 exact (beside_fills x m b).good
theorem beside_val {x m : Nat → Int} {b : Bool} (h : (hbesideS b x m).2 = false) {k i : Nat} (hk : k < 13) (hi : i < 6) : (hbesideS b x m).1 (k * 6 + i) = (subS false (x (k * 6 + i)) (m i)).1 := by
 rw [hbeside_is] at h ⊢
 have := (beside_fills x m b).val h k hk i hi
 rw [show 0 + k * 6 + i = k * 6 + i by omega] at this
 exact this
end Go.Proofs.YtpjobkbefgehjaaGreat
namespace Go.Proofs.YtpjobkbefgehjaaGreat
open Go.RowKit

def c4 (q : V4) : Nat → Int := fun j => if j = 0 then q.1 else if j = 1 then q.2.1 else if j = 2 then q.2.2.1 else q.2.2.2
def c3 (q : V3) : Nat → Int := fun j => if j = 0 then q.1 else if j = 1 then q.2.1 else q.2.2
def q4 (y : Nat → Int) (o : Nat) : V4 := (y o, y (o + 1), y (o + 2), y (o + 3))
theorem q4_eq {y z : Nat → Int} {o : Nat} (h : ∀ j, j < 4 → y (o + j) = z (o + j)) : q4 y o = q4 z o := by
 unfold q4
 rw [show y o = z o from h 0 (by omega), h 1 (by omega), h 2 (by omega), h 3 (by omega)]
theorem q4_c4 {y : Nat → Int} {o : Nat} {q : V4} (h : ∀ j, j < 4 → y (o + j) = c4 q j) : q4 y o = q := by
 unfold q4
 rw [show y o = c4 q 0 from h 0 (by omega), h 1 (by omega), h 2 (by omega), h 3 (by omega)]
 rfl
def put4 (g : Nat → Int) (o : Nat) (q : V4) : Nat → Int := updF (updF (updF (updF g o q.1) (o + 1) q.2.1) (o + 2) q.2.2.1) (o + 3) q.2.2.2
theorem put4_at (g : Nat → Int) (o : Nat) (q : V4) {j : Nat} (hj : j < 4) : put4 g o q (o + j) = c4 q j := by
 unfold put4 updF c4
 have : j = 0 ∨ j = 1 ∨ j = 2 ∨ j = 3 := by omega
 rcases this with rfl | rfl | rfl | rfl <;> simp
theorem put4_off (g : Nat → Int) (o : Nat) (q : V4) {i : Nat} (hi : i < o ∨ o + 4 ≤ i) : put4 g o q i = g i := by
 unfold put4 updF
 rw [if_neg (by omega), if_neg (by omega), if_neg (by omega), if_neg (by omega)]
def put3 (g : Nat → Int) (o : Nat) (q : V3) : Nat → Int := updF (updF (updF g o q.1) (o + 1) q.2.1) (o + 2) q.2.2
theorem put3_at (g : Nat → Int) (o : Nat) (q : V3) {j : Nat} (hj : j < 3) : put3 g o q (o + j) = c3 q j := by
 unfold put3 updF c3
 have : j = 0 ∨ j = 1 ∨ j = 2 := by omega
 rcases this with rfl | rfl | rfl <;> simp
theorem put3_off (g : Nat → Int) (o : Nat) (q : V3) {i : Nat} (hi : i < o ∨ o + 3 ≤ i) : put3 g o q i = g i := by
 unfold put3 updF
 rw [if_neg (by omega), if_neg (by omega), if_neg (by omega)]

/-! ### How the body stands by each point -/
def rowK (x : Nat → Int) (k : Nat) : Nat → Int := fun x_ => x (k * 6 + x_)
theorem att_true (g r : Nat → Int) : (fattitudeS true g r).2 = true := by
 unfold fattitudeS
 dsimp only
 rw [qFrom_true, qMul_true]
theorem att_a {b : Bool} {g r : Nat → Int} (h : (fattitudeS b g r).2 = false) : b = false ∧ (fattitudeS false g r).2 = false := ahead (X := fun b => fattitudeS b g r) (att_true g r) h
theorem att_congr {g x y : Nat → Int} {k : Nat} (h : ∀ j, j < 6 → x (k * 6 + j) = y (k * 6 + j)) (b : Bool) : fattitudeS b g (rowK x k) = fattitudeS b g (rowK y k) := by
 have e : ffirstP (rowK x k) = ffirstP (rowK y k) := by
  unfold ffirstP rowK
  rw [h 0 (by omega), h 1 (by omega), h 2 (by omega)]
 unfold fattitudeS
 rw [e]
theorem last_congr {x y : Nat → Int} {k : Nat} (h : ∀ j, j < 6 → x (k * 6 + j) = y (k * 6 + j)) : flastP (rowK x k) = flastP (rowK y k) := by
 unfold flastP rowK
 rw [h 3 (by omega), h 4 (by omega), h 5 (by omega)]
theorem att_fills (g x : Nat → Int) (b : Bool) : Fills (hattitudesS_l0 g x ((fun _ => 0), b)) (fun k => (fattitudeS false g (rowK x k)).2 = false) (fun k => c4 (fattitudeS false g (rowK x k)).1) 0 4 4 13 := by
 refine fills (n := 13) (by omega) (fun k hk s hs _ => ?_) 13 (by omega)
 rw [hattitudesS_l0_succ, ← hs]
 have e : hattitudesS_l0s g x k s = (put4 s.1 (k * 4) (fattitudeS s.2 g (rowK x k)).1, (fattitudeS s.2 g (rowK x k)).2) := by
  simp only [hattitudesS_l0s, fattitudeS, put4, hpartedP, ffirstP, rowK]
 rw [e]
 dsimp only
 refine ⟨⟨fun h => att_a h, fun h => by rw [h.1]; exact h.2⟩, fun h j hj => ?_, fun i hi => put4_off _ _ _ (by omega)⟩
 rw [show 0 + k * 4 + j = k * 4 + j by omega, put4_at _ _ _ hj, (att_a h).1]
theorem hatt_is (b : Bool) (g x : Nat → Int) : hattitudesS b g x = hattitudesS_l0 g x ((fun _ => 0), b) 13 := by
 unfold hattitudesS
 exact eta2 _
theorem att_good (g x : Nat → Int) (b : Bool) : (hattitudesS b g x).2 = false ↔ b = false ∧ ∀ k, k < 13 → (fattitudeS false g (rowK x k)).2 = false := by
 rw [hatt_is]
 exact (att_fills g x b).good
theorem att_val {g x : Nat → Int} {b : Bool} (h : (hattitudesS b g x).2 = false) {k : Nat} (hk : k < 13) : q4 (hattitudesS b g x).1 (k * 4) = (fattitudeS false g (rowK x k)).1 := by
 rw [hatt_is] at h ⊢
 refine q4_c4 (fun j hj => ?_)
 have := (att_fills g x b).val h k hk j hj
 rw [show 0 + k * 4 + j = k * 4 + j by omega] at this
 exact this

/-! ### What a point's own rate turns it by -/
def tS (b : Bool) (fr l : V3) (ms : Int) : V4 × Bool := let p2 := vSubS b fr l; let p3 := partS p2.2 p2.1.1 ms 1000; let p4 := partS p3.2 p2.1.2.1 ms 1000; let p5 := partS p4.2 p2.1.2.2 ms 1000; let p6 := qFromRodS p5.2 (p3.1, p4.1, p5.1); (p6.1, p6.2)
theorem t_true (fr l : V3) (ms : Int) : (tS true fr l ms).2 = true := by
 unfold tS
 dsimp only
 rw [vSub_true, pt_true, pt_true, pt_true, qFrom_true]
theorem t_a {b : Bool} {fr l : V3} {ms : Int} (h : (tS b fr l ms).2 = false) : b = false ∧ (tS false fr l ms).2 = false := ahead (X := fun b => tS b fr l ms) (t_true fr l ms) h
theorem moved_fills (x : Nat → Int) (ms : Int) (r3 : V3 × Bool) (y : Nat → Int) (b : Bool) : Fills (hmovedS_l0 x ms r3 (y, b)) (fun k => (tS false r3.1 (flastP (rowK x k)) ms).2 = false ∧ (qMulS false (tS false r3.1 (flastP (rowK x k)) ms).1 (q4 y (k * 4))).2 = false)
  (fun k => c4 (qMulS false (tS false r3.1 (flastP (rowK x k)) ms).1 (q4 y (k * 4))).1) 0 4 4 13 := by
 refine fills (n := 13) (by omega) (fun k hk s hs ho => ?_) 13 (by omega)
 rw [hmovedS_l0_succ, ← hs]
 have o : q4 s.1 (k * 4) = q4 y (k * 4) := q4_eq (fun j hj => by
  have := ho j hj
  rw [show 0 + k * 4 + j = k * 4 + j by omega] at this
  exact this)
 have e : hmovedS_l0s x ms r3 k s = (put4 s.1 (k * 4) (qMulS (tS s.2 r3.1 (flastP (rowK x k)) ms).2 (tS s.2 r3.1 (flastP (rowK x k)) ms).1 (q4 s.1 (k * 4))).1, (qMulS (tS s.2 r3.1 (flastP (rowK x k)) ms).2 (tS s.2 r3.1 (flastP (rowK x k)) ms).1 (q4 s.1 (k * 4))).2) := by
  simp only [hmovedS_l0s, tS, put4, hpartedP, flastP, rowK, q4]
 rw [e, o]
 dsimp only
 refine ⟨⟨fun h => ?_, fun h => ?_⟩, fun h j hj => ?_, fun i hi => put4_off _ _ _ (by omega)⟩
 ·obtain ⟨h1, h2⟩ := qMul_a h
  obtain ⟨h3, h4⟩ := t_a h1
  rw [h3] at h2
  exact ⟨h3, h4, h2⟩
 ·rw [h.1, h.2.1]; exact h.2.2
 ·obtain ⟨h1, h2⟩ := qMul_a h
  obtain ⟨h3, h4⟩ := t_a h1
  rw [show 0 + k * 4 + j = k * 4 + j by omega, put4_at _ _ _ hj, h3, h4]
theorem moved_zero (x : Nat → Int) (ms : Int) (r3 : V3 × Bool) (z : (Nat → Int) × Bool) : hmovedS_l0 x ms r3 z 0 = z := rfl
theorem hmoved_is (b : Bool) (g x : Nat → Int) (v : V3) (ms : Int) : hmovedS b g x v ms = hmovedS_l0 x ms (vSubS (hattitudesS b g x).2 v ((g 4), (g 5), (g 6))) ((hattitudesS b g x).1, (vSubS (hattitudesS b g x).2 v ((g 4), (g 5), (g 6))).2) 13 := by
 unfold hmovedS
 exact eta2 _
/-- By each point: the turn of its own rate, of its own attitude. -/
structure ThenG (g x : Nat → Int) (v : V3) (ms : Int) (k : Nat) : Prop where
 a : (fattitudeS false g (rowK x k)).2 = false
 t : (tS false (vSubS false v ((g 4), (g 5), (g 6))).1 (flastP (rowK x k)) ms).2 = false
 m : (qMulS false (tS false (vSubS false v ((g 4), (g 5), (g 6))).1 (flastP (rowK x k)) ms).1 (fattitudeS false g (rowK x k)).1).2 = false
def thenV (g x : Nat → Int) (v : V3) (ms : Int) (k : Nat) : V4 := (qMulS false (tS false (vSubS false v ((g 4), (g 5), (g 6))).1 (flastP (rowK x k)) ms).1 (fattitudeS false g (rowK x k)).1).1
theorem moved_good (g x : Nat → Int) (v : V3) (ms : Int) (b : Bool) : (hmovedS b g x v ms).2 = false ↔ b = false ∧ (vSubS false v ((g 4), (g 5), (g 6))).2 = false ∧ ∀ k, k < 13 → ThenG g x v ms k := by
 rw [hmoved_is]
 constructor
 ·intro h
  obtain ⟨h1, h2⟩ := (moved_fills x ms _ _ _).good.1 h
  rw [moved_zero] at h1
  dsimp only at h1
  obtain ⟨ea, h3⟩ := vSub_a h1
  obtain ⟨eb, h4⟩ := (att_good g x b).1 ea
  refine ⟨eb, h3, fun k hk => ?_⟩
  have h5 := h2 k hk
  rw [att_val ea hk, ea] at h5
  exact ⟨h4 k hk, h5.1, h5.2⟩
 ·rintro ⟨eb, h3, h4⟩
  have ea := (att_good g x b).2 ⟨eb, fun k hk => (h4 k hk).a⟩
  refine (moved_fills x ms _ _ _).good.2 ⟨?_, fun k hk => ?_⟩
  ·rw [moved_zero]
   dsimp only
   rw [ea]; exact h3
  ·rw [att_val ea hk, ea]
   exact ⟨(h4 k hk).t, (h4 k hk).m⟩
theorem moved_val {g x : Nat → Int} {v : V3} {ms : Int} {b : Bool} (h : (hmovedS b g x v ms).2 = false) {k j : Nat} (hk : k < 13) (hj : j < 4) : (hmovedS b g x v ms).1 (k * 4 + j) = c4 (thenV g x v ms k) j := by
 rw [hmoved_is] at h ⊢
 have h1 := ((moved_fills x ms _ _ _).good.1 h).1
 rw [moved_zero] at h1
 dsimp only at h1
 obtain ⟨ea, h3⟩ := vSub_a h1
 have := (moved_fills x ms _ _ _).val h k hk j hj
 rw [show 0 + k * 4 + j = k * 4 + j by omega] at this
 rw [this, att_val ea hk, ea]
 rfl

/-! ### Turns from one attitude -/
def eS (b : Bool) (y r : V4) : V3 × Bool := let p2 := qMulS b y (qBackS r); let p3 := qToRodS p2.2 p2.1; (p3.1, p3.2)
theorem e_true (y r : V4) : (eS true y r).2 = true := by
 unfold eS
 dsimp only
 rw [qMul_true, qTo_true]
theorem e_a {b : Bool} {y r : V4} (h : (eS b y r).2 = false) : b = false ∧ (eS false y r).2 = false := ahead (X := fun b => eS b y r) (e_true y r) h
theorem around_fills (q : V4) (y x : Nat → Int) (b : Bool) : Fills (haroundS_l0 q y x ((fun _ => 0), b)) (fun k => (eS false (q4 y (k * 4)) q).2 = false) (fun k j => if j < 3 then c3 (eS false (q4 y (k * 4)) q).1 j else x (k * 6 + j)) 0 6 6 13 := by
 refine fills (n := 13) (by omega) (fun k hk s hs _ => ?_) 13 (by omega)
 rw [haroundS_l0_succ, ← hs]
 have e : haroundS_l0s q y x k s = (put6 s.1 (k * 6) (fun j => if j < 3 then c3 (eS s.2 (q4 y (k * 4)) q).1 j else x (k * 6 + j)), (eS s.2 (q4 y (k * 4)) q).2) := by
  simp only [haroundS_l0s, eS, put6, hpartedP, hjoinedP, q4, c3]
  rfl
 rw [e]
 dsimp only
 refine ⟨⟨fun h => e_a h, fun h => by rw [h.1]; exact h.2⟩, fun h j hj => ?_, fun i hi => put6_off _ _ _ (by omega)⟩
 rw [show 0 + k * 6 + j = k * 6 + j by omega, put6_at _ _ _ hj, (e_a h).1]
theorem haround_is (b : Bool) (q : V4) (y x : Nat → Int) : haroundS b q y x = haroundS_l0 q y x ((fun _ => 0), b) 13 := by
 unfold haroundS
 exact eta2 _
theorem around_good (q : V4) (y x : Nat → Int) (b : Bool) : (haroundS b q y x).2 = false ↔ b = false ∧ ∀ k, k < 13 → (eS false (q4 y (k * 4)) q).2 = false := by
 rw [haround_is]
 exact (around_fills q y x b).good
theorem around_val {q : V4} {y x : Nat → Int} {b : Bool} (h : (haroundS b q y x).2 = false) {k j : Nat} (hk : k < 13) (hj : j < 6) : (haroundS b q y x).1 (k * 6 + j) = if j < 3 then c3 (eS false (q4 y (k * 4)) q).1 j else x (k * 6 + j) := by
 rw [haround_is] at h ⊢
 have := (around_fills q y x b).val h k hk j hj
 rw [show 0 + k * 6 + j = k * 6 + j by omega] at this
 exact this

/-! ### Where two directions are, by each point -/
def wS (b : Bool) (a : V4) (s t : V3) : (V3 × V3) × Bool := let p2 := qTurnS b a s; let p3 := qTurnS p2.2 a t; ((p2.1, p3.1), p3.2)
theorem w_true (a : V4) (s t : V3) : (wS true a s t).2 = true := by
 unfold wS
 dsimp only
 rw [qTurn_true, qTurn_true]
theorem w_a {b : Bool} {a : V4} {s t : V3} (h : (wS b a s t).2 = false) : b = false ∧ (wS false a s t).2 = false := ahead (X := fun b => wS b a s t) (w_true a s t) h
def c33 (p : V3 × V3) : Nat → Int := fun j => if j < 3 then c3 p.1 j else c3 p.2 (j - 3)
def sA (y : Nat → Int) : V3 := (y 0, y 1, y 2)
def sB (y : Nat → Int) : V3 := (y 3, y 4, y 5)
theorem view_fills (sky : Nat → Int) (r1 : (Nat → Int) × Bool) (b : Bool) : Fills (hviewedS_l0 sky r1 ((fun _ => 0), b)) (fun k => (wS false (q4 r1.1 (k * 4)) (sA sky) (sB sky)).2 = false) (fun k => c33 (wS false (q4 r1.1 (k * 4)) (sA sky) (sB sky)).1) 0 6 6 13 := by
 refine fills (n := 13) (by omega) (fun k hk s hs _ => ?_) 13 (by omega)
 rw [hviewedS_l0_succ, ← hs]
 have e : hviewedS_l0s sky r1 k s = (put6 s.1 (k * 6) (c33 (wS s.2 (q4 r1.1 (k * 4)) (sA sky) (sB sky)).1), (wS s.2 (q4 r1.1 (k * 4)) (sA sky) (sB sky)).2) := by
  simp only [hviewedS_l0s, wS, put6, hjoinedP, q4, c33, c3, sA, sB]
  rfl
 rw [e]
 dsimp only
 refine ⟨⟨fun h => w_a h, fun h => by rw [h.1]; exact h.2⟩, fun h j hj => ?_, fun i hi => put6_off _ _ _ (by omega)⟩
 rw [show 0 + k * 6 + j = k * 6 + j by omega, put6_at _ _ _ hj, (w_a h).1]
theorem view_zero (sky : Nat → Int) (r1 z : (Nat → Int) × Bool) : hviewedS_l0 sky r1 z 0 = z := rfl
theorem hview_is (b : Bool) (g x sky : Nat → Int) : hviewedS b g x sky = hviewedS_l0 sky (hattitudesS b g x) ((fun _ => 0), (hattitudesS b g x).2) 13 := by
 unfold hviewedS
 exact eta2 _
structure ViewG (g x : Nat → Int) (s t : V3) (k : Nat) : Prop where
 a : (fattitudeS false g (rowK x k)).2 = false
 w : (wS false (fattitudeS false g (rowK x k)).1 s t).2 = false
theorem view_good (g x sky : Nat → Int) (b : Bool) : (hviewedS b g x sky).2 = false ↔ b = false ∧ ∀ k, k < 13 → ViewG g x (sA sky) (sB sky) k := by
 rw [hview_is]
 constructor
 ·intro h
  obtain ⟨h1, h2⟩ := (view_fills sky _ _).good.1 h
  rw [view_zero] at h1
  have ea := h1
  dsimp only at ea
  obtain ⟨eb, h4⟩ := (att_good g x b).1 ea
  refine ⟨eb, fun k hk => ⟨h4 k hk, ?_⟩⟩
  have h5 := h2 k hk
  rw [att_val ea hk] at h5
  exact h5
 ·rintro ⟨eb, h4⟩
  have ea := (att_good g x b).2 ⟨eb, fun k hk => (h4 k hk).a⟩
  refine (view_fills sky _ _).good.2 ⟨by rw [view_zero]; dsimp only; exact ea, fun k hk => ?_⟩
  rw [att_val ea hk]
  exact (h4 k hk).w
theorem view_val {g x sky : Nat → Int} {b : Bool} (h : (hviewedS b g x sky).2 = false) {k j : Nat} (hk : k < 13) (hj : j < 6) : (hviewedS b g x sky).1 (k * 6 + j) = c33 (wS false (fattitudeS false g (rowK x k)).1 (sA sky) (sB sky)).1 j := by
 rw [hview_is] at h ⊢
 have ea := ((view_fills sky _ _).good.1 h).1
 rw [view_zero] at ea
 dsimp only at ea
 have := (view_fills sky _ _).val h k hk j hj
 rw [show 0 + k * 6 + j = k * 6 + j by omega] at this
 rw [this, att_val ea hk]

/-! ### More on the diagonal; evened -/
theorem raised_fills (m : Nat → Int) (p q : Int) (b : Bool) : Fills (hraisedS_l0 p q (m, b)) (fun i => (addS false (m (i * 7)) (heitherP i p q)).2 = false) (fun i _ => (addS false (m (i * 7)) (heitherP i p q)).1) 0 7 1 6 := by
 refine fills (n := 6) (by omega) (fun i hi s hs ho => ?_) 6 (by omega)
 have h0 := ho 0 (by omega)
 rw [show 0 + i * 7 + 0 = i * 6 + i by omega] at h0
 rw [hraisedS_l0_succ, ← hs]
 unfold hraisedS_l0s
 dsimp only
 rw [show s.1 (i * 6 + i) = m (i * 6 + i) from h0, show i * 6 + i = i * 7 by omega]
 have hX : (addS true (m (i * 7)) (heitherP i p q)).2 = true := by rw [addS_true]
 refine ⟨one_step (X := fun b => addS b (m (i * 7)) (heitherP i p q)) hX s.2, fun h c hc => ?_, fun e he => updF_off _ _ (by omega)⟩
 obtain rfl : c = 0 := by omega
 rw [show 0 + i * 7 + 0 = i * 7 by omega, updF_at]
 exact one_val (X := fun b => addS b (m (i * 7)) (heitherP i p q)) hX h
theorem hraised_is (b : Bool) (m : Nat → Int) (p q : Int) : hraisedS b m p q = hraisedS_l0 p q (m, b) 6 := by
 unfold hraisedS
 exact eta2 _
theorem raised_good (m : Nat → Int) (p q : Int) (b : Bool) : (hraisedS b m p q).2 = false ↔ b = false ∧ ∀ i, i < 6 → (addS false (m (i * 7)) (heitherP i p q)).2 = false := by
 rw [hraised_is]
 exact (raised_fills m p q b).good
theorem raised_val {m : Nat → Int} {p q : Int} {b : Bool} (h : (hraisedS b m p q).2 = false) {i : Nat} (hi : i < 6) : (hraisedS b m p q).1 (i * 7) = (addS false (m (i * 7)) (heitherP i p q)).1 := by
 rw [hraised_is] at h ⊢
 have := (raised_fills m p q b).val h i hi 0 (by omega)
 rw [show 0 + i * 7 + 0 = i * 7 by omega] at this
 exact this
theorem raised_off (m : Nat → Int) (p q : Int) (b : Bool) {e : Nat} (he : ∀ i, i < 6 → e ≠ i * 7) : (hraisedS b m p q).1 e = m e := by
 rw [hraised_is]
 exact (raised_fills m p q b).rest e (fun k hk => by have := he k hk; omega)
/-- Half of two numbers. -/
def halfS (b : Bool) (x y : Int) : Int × Bool := let p1 := addS b x y; let p2 := partS p1.2 p1.1 1 2; (p2.1, p2.2)
theorem half_true (x y : Int) : (halfS true x y).2 = true := by
 unfold halfS
 dsimp only
 rw [addS_true, pt_true]
theorem even_row (m : Nat → Int) (i : Nat) (z : (Nat → Int) × Bool) : Fills (hevenedS_l1 m i z) (fun j => (halfS false (m (i * 6 + j)) (m (j * 6 + i))).2 = false) (fun j _ => (halfS false (m (i * 6 + j)) (m (j * 6 + i))).1) (i * 6) 1 1 6 := by
 refine fills (n := 6) (by omega) (fun j hj s hs _ => ?_) 6 (by omega)
 rw [hevenedS_l1_succ, ← hs]
 have e : hevenedS_l1s m i j s = (updF s.1 (i * 6 + j) (halfS s.2 (m (i * 6 + j)) (m (j * 6 + i))).1, (halfS s.2 (m (i * 6 + j)) (m (j * 6 + i))).2) := rfl
 rw [e]
 dsimp only
 have hX := half_true (m (i * 6 + j)) (m (j * 6 + i))
 refine ⟨one_step (X := fun b => halfS b (m (i * 6 + j)) (m (j * 6 + i))) hX s.2, fun h c hc => ?_, fun e he => updF_off _ _ (by omega)⟩
 obtain rfl : c = 0 := by omega
 rw [show i * 6 + j * 1 + 0 = i * 6 + j by omega, updF_at]
 exact one_val (X := fun b => halfS b (m (i * 6 + j)) (m (j * 6 + i))) hX h
theorem even_fills (m : Nat → Int) (b : Bool) : Fills (hevenedS_l0 m ((fun _ => 0), b)) (fun i => ∀ j, j < 6 → (halfS false (m (i * 6 + j)) (m (j * 6 + i))).2 = false) (fun i j => (halfS false (m (i * 6 + j)) (m (j * 6 + i))).1) 0 6 6 6 := by
 refine fills (n := 6) (by omega) (fun i hi s hs _ => ?_) 6 (by omega)
 rw [hevenedS_l0_succ, ← hs]
 unfold hevenedS_l0s
 dsimp only
 have F := even_row m i (s.1, s.2)
 refine ⟨F.good, fun h j hj => ?_, fun e he => F.rest e (fun k hk => by omega)⟩
 have := F.val h j hj 0 (by omega)
 rw [show i * 6 + j * 1 + 0 = 0 + i * 6 + j by omega] at this
 exact this
theorem hevened_is (b : Bool) (m : Nat → Int) : hevenedS b m = hevenedS_l0 m ((fun _ => 0), b) 6 := by
 unfold hevenedS
 exact eta2 _
theorem even_good (m : Nat → Int) (b : Bool) : (hevenedS b m).2 = false ↔ b = false ∧ ∀ i, i < 6 → ∀ j, j < 6 → (halfS false (m (i * 6 + j)) (m (j * 6 + i))).2 = false := by
 rw [hevened_is]
 exact (even_fills m b).good
theorem even_val {m : Nat → Int} {b : Bool} (h : (hevenedS b m).2 = false) {i j : Nat} (hi : i < 6) (hj : j < 6) : (hevenedS b m).1 (i * 6 + j) = (halfS false (m (i * 6 + j)) (m (j * 6 + i))).1 := by
 rw [hevened_is] at h ⊢
 have := (even_fills m b).val h i hi j hj
 rw [show 0 + i * 6 + j = i * 6 + j by omega] at this
 exact this

/-! ### Turned on, and biased -/
theorem turned_true (q : V4) (r : Nat → Int) : (hturnedS true q r).2 = true := by
 unfold hturnedS
 dsimp only
 rw [qFrom_true, qMul_true, qUnit_true]
theorem turned_a {b : Bool} {q : V4} {r : Nat → Int} (h : (hturnedS b q r).2 = false) : b = false ∧ (hturnedS false q r).2 = false := ahead (X := fun b => hturnedS b q r) (turned_true q r) h
theorem biased_true (v : V3) (r : Nat → Int) : (hbiasedS true v r).2 = true := by
 unfold hbiasedS
 dsimp only
 rw [vAdd_true]
theorem biased_a {b : Bool} {v : V3} {r : Nat → Int} (h : (hbiasedS b v r).2 = false) : b = false ∧ (hbiasedS false v r).2 = false := ahead (X := fun b => hbiasedS b v r) (biased_true v r) h
theorem parted_congr {r r' : Nat → Int} (h : ∀ i, i < 6 → r i = r' i) : hpartedP r = hpartedP r' := by
 unfold hpartedP
 rw [h 0 (by omega), h 1 (by omega), h 2 (by omega), h 3 (by omega), h 4 (by omega), h 5 (by omega)]
theorem turned_congr {r r' : Nat → Int} (h : ∀ i, i < 6 → r i = r' i) (b : Bool) (q : V4) : hturnedS b q r = hturnedS b q r' := by
 unfold hturnedS
 rw [parted_congr h]
theorem biased_congr {r r' : Nat → Int} (h : ∀ i, i < 6 → r i = r' i) (b : Bool) (v : V3) : hbiasedS b v r = hbiasedS b v r' := by
 unfold hbiasedS
 rw [parted_congr h]
end Go.Proofs.YtpjobkbefgehjaaGreat
namespace Go.Proofs.YtpjobkbefgehjaaGreat
open Go.RowKit

/-! ### Points -/
theorem pts_l1 (r1 : (Nat → Int) × Bool) (r3 : Int × Bool) (k : Nat) (z : (Nat → Int) × Bool) : ∀ i, fPointsS_l1 r1 r3 k z i = hPointsS_l1 r1 r3 k z i
 | 0 => rfl
 | i + 1 => by rw [fPointsS_l1_succ, hPointsS_l1_succ, pts_l1 r1 r3 k z i]; rfl
theorem pts_l0 (r1 : (Nat → Int) × Bool) (r3 : Int × Bool) (z : (Nat → Int) × Bool) : ∀ k, fPointsS_l0 r1 r3 z k = hPointsS_l0 r1 r3 z k
 | 0 => rfl
 | k + 1 => by
  rw [fPointsS_l0_succ, hPointsS_l0_succ, pts_l0 r1 r3 z k]
  unfold fPointsS_l0s hPointsS_l0s
  rw [pts_l1]
theorem hPoints_is (b : Bool) (g : Nat → Int) : hPointsS b g = hPointsS_l0 (zRoot6 b (fun x_ => g (7 + x_))) (sqrtS (zRoot6 b (fun x_ => g (7 + x_))).2 7696581394432) ((fun _ => 0), (sqrtS (zRoot6 b (fun x_ => g (7 + x_))).2 7696581394432).2) 6 := by
 unfold hPointsS
 exact eta2 _
theorem fPoints_is (b : Bool) (g : Nat → Int) : fPointsS b g = if (hPointsS b g).2 then ((fun _ => 0), (hPointsS b g).2) else ((hPointsS b g).1, (hPointsS b g).2) := by
 rw [hPoints_is]
 unfold fPointsS
 dsimp only
 rw [pts_l0]
theorem fPoints_flag (b : Bool) (g : Nat → Int) : (fPointsS b g).2 = (hPointsS b g).2 := by
 rw [fPoints_is]
 cases (hPointsS b g).2 <;> rfl
theorem fPoints_good {b : Bool} {g : Nat → Int} (h : (hPointsS b g).2 = false) : fPointsS b g = hPointsS b g := by
 rw [fPoints_is, h, if_neg (by decide), ← h]
theorem pts_l1_bad (r1 : (Nat → Int) × Bool) (r3 : Int × Bool) (k : Nat) {z : (Nat → Int) × Bool} (h : z.2 = true) : ∀ i, (hPointsS_l1 r1 r3 k z i).2 = true
 | 0 => h
 | i + 1 => by
  rw [hPointsS_l1_succ]
  unfold hPointsS_l1s
  dsimp only
  rw [pts_l1_bad r1 r3 k h i, mulS_true]
theorem pts_l0_bad (r1 : (Nat → Int) × Bool) (r3 : Int × Bool) {z : (Nat → Int) × Bool} (h : z.2 = true) : ∀ k, (hPointsS_l0 r1 r3 z k).2 = true
 | 0 => h
 | k + 1 => by
  rw [hPointsS_l0_succ]
  unfold hPointsS_l0s
  exact pts_l1_bad r1 r3 k (z := ((hPointsS_l0 r1 r3 z k).1, (hPointsS_l0 r1 r3 z k).2)) (pts_l0_bad r1 r3 h k) 6
theorem sq_true (a : Int) : sqrtS true a = (0, true) := sqrtS_no (tk_true _)
theorem pts_true (g : Nat → Int) : (hPointsS true g).2 = true := by
 rw [hPoints_is]
 have e : (zRoot6 true (fun x_ => g (7 + x_))).2 = true := rfl
 rw [e, sq_true]
 exact pts_l0_bad _ _ rfl 6
theorem pts_a {b : Bool} {g : Nat → Int} (h : (hPointsS b g).2 = false) : b = false ∧ (hPointsS false g).2 = false := ahead (X := fun b => hPointsS b g) (pts_true g) h

/-! ### The loops of the document's Move -/
theorem then_ref (g : Nat → Int) (v : V3) (ms : Int) (r1 : (Nat → Int) × Bool) (b : Bool) : Fills (fMoveinS_l5 g v ms r1 ((fun _ => 0), b)) (fun k => (vSubS false v ((g 4), (g 5), (g 6))).2 = false ∧ ThenG g r1.1 v ms k) (fun k => c4 (thenV g r1.1 v ms k)) 0 4 4 13 := by
 refine fills (n := 13) (by omega) (fun k hk s hs _ => ?_) 13 (by omega)
 rw [fMoveinS_l5_succ, ← hs]
 have e : fMoveinS_l5s g v ms r1 k s = (put4 s.1 (k * 4) (qMulS (fattitudeS (tS (vSubS s.2 v ((g 4), (g 5), (g 6))).2 (vSubS s.2 v ((g 4), (g 5), (g 6))).1 (flastP (rowK r1.1 k)) ms).2 g (rowK r1.1 k)).2 (tS (vSubS s.2 v ((g 4), (g 5), (g 6))).2 (vSubS s.2 v ((g 4), (g 5), (g 6))).1 (flastP (rowK r1.1 k)) ms).1 (fattitudeS (tS (vSubS s.2 v ((g 4), (g 5), (g 6))).2 (vSubS s.2 v ((g 4), (g 5), (g 6))).1 (flastP (rowK r1.1 k)) ms).2 g (rowK r1.1 k)).1).1, (qMulS (fattitudeS (tS (vSubS s.2 v ((g 4), (g 5), (g 6))).2 (vSubS s.2 v ((g 4), (g 5), (g 6))).1 (flastP (rowK r1.1 k)) ms).2 g (rowK r1.1 k)).2 (tS (vSubS s.2 v ((g 4), (g 5), (g 6))).2 (vSubS s.2 v ((g 4), (g 5), (g 6))).1 (flastP (rowK r1.1 k)) ms).1 (fattitudeS (tS (vSubS s.2 v ((g 4), (g 5), (g 6))).2 (vSubS s.2 v ((g 4), (g 5), (g 6))).1 (flastP (rowK r1.1 k)) ms).2 g (rowK r1.1 k)).1).2) := by
  unfold fMoveinS_l5s tS put4 rowK
  dsimp only
 rw [e]
 dsimp only
 have key : ∀ {b : Bool}, (qMulS (fattitudeS (tS (vSubS b v ((g 4), (g 5), (g 6))).2 (vSubS b v ((g 4), (g 5), (g 6))).1 (flastP (rowK r1.1 k)) ms).2 g (rowK r1.1 k)).2 (tS (vSubS b v ((g 4), (g 5), (g 6))).2 (vSubS b v ((g 4), (g 5), (g 6))).1 (flastP (rowK r1.1 k)) ms).1 (fattitudeS (tS (vSubS b v ((g 4), (g 5), (g 6))).2 (vSubS b v ((g 4), (g 5), (g 6))).1 (flastP (rowK r1.1 k)) ms).2 g (rowK r1.1 k)).1).2 = false →
   b = false ∧ (vSubS false v ((g 4), (g 5), (g 6))).2 = false ∧ ThenG g r1.1 v ms k := fun {b} h => by
  obtain ⟨h1, h2⟩ := qMul_a h
  obtain ⟨h3, h4⟩ := att_a h1
  obtain ⟨h5, h6⟩ := t_a h3
  obtain ⟨h7, h8⟩ := vSub_a h5
  subst h7
  rw [h8] at h2 h3
  rw [h3] at h2
  exact ⟨rfl, h8, h4, h6, h2⟩
 refine ⟨⟨fun h => key h, fun h => ?_⟩, fun h j hj => ?_, fun i hi => put4_off _ _ _ (by omega)⟩
 ·rw [h.1, h.2.1, h.2.2.t, h.2.2.a]
  exact h.2.2.m
 ·obtain ⟨h1, h2, h3⟩ := key h
  unfold thenV
  rw [show 0 + k * 4 + j = k * 4 + j by omega, put4_at _ _ _ hj, h1, h2, h3.t, h3.a]
theorem around_ref (r4 : (Nat → Int) × Bool) (r5 : V4 × Bool) (x : Nat → Int) (b : Bool) : Fills (fMoveinS_l4 r4 r5 (x, b)) (fun k => (eS false (q4 r4.1 (k * 4)) r5.1).2 = false) (fun k => c3 (eS false (q4 r4.1 (k * 4)) r5.1).1) 0 6 3 13 := by
 refine fills (n := 13) (by omega) (fun k hk s hs _ => ?_) 13 (by omega)
 rw [fMoveinS_l4_succ, ← hs]
 have e : fMoveinS_l4s r4 r5 k s = (put3 s.1 (k * 6) (eS s.2 (q4 r4.1 (k * 4)) r5.1).1, (eS s.2 (q4 r4.1 (k * 4)) r5.1).2) := by
  simp only [fMoveinS_l4s, eS, put3, q4]
 rw [e]
 dsimp only
 refine ⟨⟨fun h => e_a h, fun h => by rw [h.1]; exact h.2⟩, fun h j hj => ?_, fun i hi => put3_off _ _ _ (by omega)⟩
 rw [show 0 + k * 6 + j = k * 6 + j by omega, put3_at _ _ _ hj, (e_a h).1]
theorem mean_ref (r6 : (Nat → Int) × Bool) (b : Bool) : Fills (fMoveinS_l3 r6 ((fun _ => 0), b)) (fun i => (fmeanS false r6.1 i).2 = false) (fun i _ => (fmeanS false r6.1 i).1) 0 1 1 6 := by
 refine fills (n := 6) (by omega) (fun k hk s hs _ => ?_) 6 (by omega)
 rw [fMoveinS_l3_succ, ← hs]
 unfold fMoveinS_l3s
 dsimp only
 have hX := mean_true r6.1 k
 refine ⟨one_step (X := fun b => fmeanS b r6.1 k) hX s.2, fun h j hj => ?_, fun i hi => updF_off _ _ (by omega)⟩
 obtain rfl : j = 0 := by omega
 rw [show 0 + k * 1 + 0 = k by omega, updF_at]
 exact one_val (X := fun b => fmeanS b r6.1 k) hX h
theorem less_row_ref (m : Nat → Int) (k : Nat) (z : (Nat → Int) × Bool) : Fills (flessS_l1 m k z) (fun i => (subS false (z.1 (k * 6 + i)) (m i)).2 = false) (fun i _ => (subS false (z.1 (k * 6 + i)) (m i)).1) (k * 6) 1 1 6 := by
 refine fills (n := 6) (by omega) (fun i hi s hs ho => ?_) 6 (by omega)
 have h0 := ho 0 (by omega)
 rw [show k * 6 + i * 1 + 0 = k * 6 + i by omega] at h0
 rw [flessS_l1_succ, ← hs]
 unfold flessS_l1s
 dsimp only
 rw [show s.1 (k * 6 + i) = z.1 (k * 6 + i) from h0]
 have hX : (subS true (z.1 (k * 6 + i)) (m i)).2 = true := by rw [subS_true]
 refine ⟨one_step (X := fun b => subS b (z.1 (k * 6 + i)) (m i)) hX s.2, fun h c hc => ?_, fun e he => updF_off _ _ (by omega)⟩
 obtain rfl : c = 0 := by omega
 rw [show k * 6 + i * 1 + 0 = k * 6 + i by omega, updF_at]
 exact one_val (X := fun b => subS b (z.1 (k * 6 + i)) (m i)) hX h
theorem less_ref (x m : Nat → Int) (b : Bool) : Fills (flessS_l0 m (x, b)) (fun k => ∀ i, i < 6 → (subS false (x (k * 6 + i)) (m i)).2 = false) (fun k i => (subS false (x (k * 6 + i)) (m i)).1) 0 6 6 13 := by
 refine fills (n := 13) (by omega) (fun k hk s hs ho => ?_) 13 (by omega)
 rw [flessS_l0_succ, ← hs]
 unfold flessS_l0s
 dsimp only
 have e : ∀ i, i < 6 → s.1 (k * 6 + i) = x (k * 6 + i) := fun i hi => by
  have := ho i hi
  rw [show 0 + k * 6 + i = k * 6 + i by omega] at this
  exact this
 have F := less_row_ref m k (s.1, s.2)
 refine ⟨F.good.trans ⟨fun h => ⟨h.1, fun i hi => by rw [← e i hi]; exact h.2 i hi⟩, fun h => ⟨h.1, fun i hi => by dsimp only; rw [e i hi]; exact h.2 i hi⟩⟩, fun h j hj => ?_, fun e he => F.rest e (fun k hk => by omega)⟩
 have := F.val h j hj 0 (by omega)
 rw [show k * 6 + j * 1 + 0 = 0 + k * 6 + j by omega] at this
 rw [this]
 dsimp only
 rw [e j hj]
theorem fless_is (b : Bool) (x m : Nat → Int) : flessS b x m = flessS_l0 m (x, b) 13 := by
 unfold flessS
 exact eta2 _
theorem prod_row_ref (r9 : (Nat → Int) × Bool) (i : Nat) (z : (Nat → Int) × Bool) : Fills (fMoveinS_l2 r9 i z) (fun j => (fproductsS false r9.1 i r9.1 j).2 = false) (fun j _ => (fproductsS false r9.1 i r9.1 j).1) (7 + i * 6) 1 1 6 := by
 refine fills (n := 6) (by omega) (fun j hj s hs _ => ?_) 6 (by omega)
 rw [fMoveinS_l2_succ, ← hs]
 unfold fMoveinS_l2s
 dsimp only
 have hX := prod_true r9.1 r9.1 i j
 refine ⟨one_step (X := fun b => fproductsS b r9.1 i r9.1 j) hX s.2, fun h c hc => ?_, fun e he => updF_off _ _ (by omega)⟩
 obtain rfl : c = 0 := by omega
 rw [show 7 + i * 6 + j * 1 + 0 = 7 + i * 6 + j by omega, updF_at]
 exact one_val (X := fun b => fproductsS b r9.1 i r9.1 j) hX h
theorem prod_ref (r9 : (Nat → Int) × Bool) (b : Bool) : Fills (fMoveinS_l1 r9 ((fun _ => 0), b)) (fun i => ∀ j, j < 6 → (fproductsS false r9.1 i r9.1 j).2 = false) (fun i j => (fproductsS false r9.1 i r9.1 j).1) 7 6 6 6 := by
 refine fills (n := 6) (by omega) (fun i hi s hs _ => ?_) 6 (by omega)
 rw [fMoveinS_l1_succ, ← hs]
 unfold fMoveinS_l1s
 dsimp only
 have F := prod_row_ref r9 i (s.1, s.2)
 refine ⟨F.good, fun h j hj => ?_, fun e he => F.rest e (fun k hk => by omega)⟩
 have := F.val h j hj 0 (by omega)
 rw [show 7 + i * 6 + j * 1 + 0 = 7 + i * 6 + j by omega] at this
 exact this

/-! ### More on the diagonal, as the document works it -/
structure RaiseR (z : (Nat → Int) × Bool) (L : (Nat → Int) × Bool) (p q : Int) (G : Prop) (m : Nat) : Prop where
 good : L.2 = false ↔ z.2 = false ∧ ∀ i, i < m → G ∧ (addS false (z.1 (7 + i * 7)) p).2 = false ∧ (addS false (z.1 (28 + i * 7)) q).2 = false
 lo : L.2 = false → ∀ i, i < m → L.1 (7 + i * 7) = (addS false (z.1 (7 + i * 7)) p).1
 hi : L.2 = false → ∀ i, i < m → L.1 (28 + i * 7) = (addS false (z.1 (28 + i * 7)) q).1
 rest : ∀ e, (∀ i, i < m → e ≠ 7 + i * 7 ∧ e ≠ 28 + i * 7) → L.1 e = z.1 e
theorem raise_ref (ms : Int) (z : (Nat → Int) × Bool) : ∀ m, m ≤ 3 → RaiseR z (fMoveinS_l0 ms z m) (partS false 65536 ms 1000).1 (partS false 1024 ms 1000).1 ((partS false 65536 ms 1000).2 = false ∧ (partS false 1024 ms 1000).2 = false) m
 | 0, _ => ⟨⟨fun h => ⟨h, fun i hi => absurd hi (Nat.not_lt_zero i)⟩, fun h => h.1⟩, fun _ i hi => absurd hi (Nat.not_lt_zero i), fun _ i hi => absurd hi (Nat.not_lt_zero i), fun _ _ => rfl⟩
 | m + 1, hm => by
  have ih := raise_ref ms z m (by omega)
  rw [fMoveinS_l0_succ]
  generalize fMoveinS_l0 ms z m = s at ih ⊢
  have e1 : s.1 (7 + m * 7) = z.1 (7 + m * 7) := ih.rest _ (fun i hi => by omega)
  have e2 : s.1 (28 + m * 7) = z.1 (28 + m * 7) := ih.rest _ (fun i hi => by omega)
  unfold fMoveinS_l0s
  dsimp only
  rw [show 7 + m * 6 + m = 7 + m * 7 by omega, show 7 + (m + 3) * 6 + (m + 3) = 28 + m * 7 by omega, updF_off _ _ (show 28 + m * 7 ≠ 7 + m * 7 by omega), e1, e2]
  have key : (addS (partS (addS (partS s.2 65536 ms 1000).2 (z.1 (7 + m * 7)) (partS s.2 65536 ms 1000).1).2 1024 ms 1000).2 (z.1 (28 + m * 7)) (partS (addS (partS s.2 65536 ms 1000).2 (z.1 (7 + m * 7)) (partS s.2 65536 ms 1000).1).2 1024 ms 1000).1).2 = false →
    s.2 = false ∧ (partS false 65536 ms 1000).2 = false ∧ (addS false (z.1 (7 + m * 7)) (partS false 65536 ms 1000).1).2 = false ∧ (partS false 1024 ms 1000).2 = false ∧ (addS false (z.1 (28 + m * 7)) (partS false 1024 ms 1000).1).2 = false := fun h => by
   obtain ⟨h1, h2⟩ := add_a h
   obtain ⟨h3, h4⟩ := part_a h1
   obtain ⟨h5, h6⟩ := add_a h3
   obtain ⟨h7, h8⟩ := part_a h5
   rw [h7] at h6 h3
   rw [h7] at h2
   rw [h8] at h2 h3
   rw [h3] at h2
   exact ⟨h7, h8, h6, h4, h2⟩
  refine ⟨⟨fun h => ?_, fun h => ?_⟩, fun h i hi => ?_, fun h i hi => ?_, fun e he => ?_⟩ <;> dsimp only at *
  ·obtain ⟨k1, k2, k3, k4, k5⟩ := key h
   obtain ⟨j1, j2⟩ := ih.good.1 k1
   refine ⟨j1, fun i hi => ?_⟩
   rcases Nat.lt_succ_iff_lt_or_eq.1 hi with hi | rfl
   ·exact j2 i hi
   ·exact ⟨⟨k2, k4⟩, k3, k5⟩
  ·have k1 := ih.good.2 ⟨h.1, fun i hi => h.2 i (by omega)⟩
   obtain ⟨⟨a1, a2⟩, a3, a4⟩ := h.2 m (by omega)
   rw [k1, a1, a3, a2]
   exact a4
  ·obtain ⟨k1, k2, k3, k4, k5⟩ := key h
   rcases Nat.lt_succ_iff_lt_or_eq.1 hi with hi | rfl
   ·rw [updF_off _ _ (by omega), updF_off _ _ (by omega)]
    exact ih.lo k1 i hi
   ·rw [updF_off _ _ (by omega), updF_at, k1, k2]
  ·obtain ⟨k1, k2, k3, k4, k5⟩ := key h
   rcases Nat.lt_succ_iff_lt_or_eq.1 hi with hi | rfl
   ·rw [updF_off _ _ (by omega), updF_off _ _ (by omega)]
    exact ih.hi k1 i hi
   ·rw [updF_at, k1, k2, k3, k4]
  ·have := he m (by omega)
   rw [updF_off _ _ (by omega), updF_off _ _ (by omega)]
   exact ih.rest e (fun i hi => he i (by omega))
end Go.Proofs.YtpjobkbefgehjaaGreat
namespace Go.Proofs.YtpjobkbefgehjaaGreat
open Go.RowKit

theorem turned_is (b : Bool) (q : V4) (r : Nat → Int) {r2 r3 : V4 × Bool} (h2 : r2 = qFromRodS b (ffirstP r)) (h3 : r3 = qMulS r2.2 r2.1 q) : qUnitS r3.2 r3.1 = hturnedS b q r := by
 subst h2
 subst h3
 unfold hturnedS
 exact (eta2 _).symm
theorem biased_is (b : Bool) (v : V3) (r : Nat → Int) : vAddS b v (flastP r) = hbiasedS b v r := by
 unfold hbiasedS
 exact (eta2 _).symm
theorem fMove_chain (b : Bool) (g : Nat → Int) (v : V3) (ms : Int) : ∃ (r1 r4 : (Nat → Int) × Bool) (r5 : V4 × Bool) (r6 r8 r9 r12 r13 : (Nat → Int) × Bool) (r15 r16 r17 : V4 × Bool) (r20 : V3 × Bool),
  r1 = fPointsS b g ∧ r4 = fMoveinS_l5 g v ms r1 ((fun _ => 0), r1.2) 13 ∧ r5 = qUnitS r4.2 ((r4.1 0), (r4.1 1), (r4.1 2), (r4.1 3)) ∧ r6 = fMoveinS_l4 r4 r5 (r1.1, r5.2) 13 ∧ r8 = fMoveinS_l3 r6 ((fun _ => 0), r6.2) 6 ∧ r9 = flessS r8.2 r6.1 r8.1 ∧
  r12 = fMoveinS_l1 r9 ((fun _ => 0), r9.2) 6 ∧ r13 = fMoveinS_l0 ms (r12.1, r12.2) 3 ∧ r15 = qFromRodS r13.2 (ffirstP r8.1) ∧ r16 = qMulS r15.2 r15.1 r5.1 ∧ r17 = qUnitS r16.2 r16.1 ∧ r20 = vAddS r17.2 ((g 4), (g 5), (g 6)) (flastP r8.1) ∧
  fMoveinS b g v ms = if r20.2 then ((fun _ => 0), r20.2) else ((updF (updF (updF (updF (updF (updF (updF r13.1 0 r17.1.1) 1 r17.1.2.1) 2 r17.1.2.2.1) 3 r17.1.2.2.2) 4 r20.1.1) 5 r20.1.2.1) 6 r20.1.2.2), r20.2) := by
 refine ⟨_, _, _, _, _, _, _, _, _, _, _, _, rfl, rfl, rfl, rfl, rfl, rfl, rfl, rfl, rfl, rfl, rfl, rfl, ?_⟩
 unfold fMoveinS
 exact rfl
theorem hMove_chain (b : Bool) (g : Nat → Int) (v : V3) (ms : Int) (h1 : ¬ ms < 10) (h2 : ¬ ms > 10000) : ∃ (r1 r3 : (Nat → Int) × Bool) (r5 : V4 × Bool) (r6 r8 r10 r12 : (Nat → Int) × Bool) (r14 : V4 × Bool) (r15 : V3 × Bool) (r16 r17 : Int × Bool) (r18 : (Nat → Int) × Bool),
  r1 = hPointsS b g ∧ r3 = hmovedS r1.2 g r1.1 v ms ∧ r5 = qUnitS r3.2 ((r3.1 0), (r3.1 1), (r3.1 2), (r3.1 3)) ∧ r6 = haroundS r5.2 r5.1 r3.1 r1.1 ∧ r8 = hmeanS r6.2 r6.1 ∧ r10 = hbesideS r8.2 r6.1 r8.1 ∧ r12 = hproductsS r10.2 r10.1 r10.1 ∧ r14 = hturnedS r12.2 r5.1 r8.1 ∧
  r15 = hbiasedS r14.2 ((g 4), (g 5), (g 6)) r8.1 ∧ r16 = partS r15.2 65536 ms 1000 ∧ r17 = partS r16.2 1024 ms 1000 ∧ r18 = hraisedS r17.2 r12.1 r16.1 r17.1 ∧
  hMoveS b g v ms = hsoundS r18.2 (guessF r14.1 r15.1 r18.1) := by
 refine ⟨_, _, _, _, _, _, _, _, _, _, _, _, rfl, rfl, rfl, rfl, rfl, rfl, rfl, rfl, rfl, rfl, rfl, rfl, ?_⟩
 unfold hMoveS
 refine (if_neg h1).trans ((if_neg h2).trans ?_)
 exact eta2 _

/-! ### Steps that agree -/
/-- A row of the code's and one of the document's: H stands for what the document has asked already. -/
structure Agr (H : Prop) (N : Nat) (s t : (Nat → Int) × Bool) : Prop where
 flag : t.2 = false ↔ s.2 = false ∧ H
 cell : t.2 = false → ∀ i, i < N → s.1 i = t.1 i
theorem mean_stage {H : Prop} {s t : (Nat → Int) × Bool} (A : Agr H 78 s t) {L : Nat → (Nat → Int) × Bool} (hL : (L 0).2 = t.2) (F : Fills L (fun i => (fmeanS false t.1 i).2 = false) (fun i _ => (fmeanS false t.1 i).1) 0 1 1 6) : Agr H 6 (hmeanS s.2 s.1) (L 6) := by
 have c : t.2 = false → ∀ i, i < 6 → fmeanS false s.1 i = fmeanS false t.1 i := fun h i hi => mean_congr (fun k hk => A.cell h _ (by omega)) false
 have g := F.good
 rw [hL] at g
 refine ⟨⟨fun h => ?_, fun h => ?_⟩, fun h i hi => ?_⟩
 ·obtain ⟨h1, h2⟩ := g.1 h
  obtain ⟨h3, h4⟩ := A.flag.1 h1
  exact ⟨(mean_good _ _).2 ⟨h3, fun i hi => by rw [c h1 i hi]; exact h2 i hi⟩, h4⟩
 ·obtain ⟨h3, h5⟩ := (mean_good _ _).1 h.1
  have h1 := A.flag.2 ⟨h3, h.2⟩
  exact g.2 ⟨h1, fun i hi => by rw [← c h1 i hi]; exact h5 i hi⟩
 ·obtain ⟨h1, h2⟩ := g.1 h
  obtain ⟨h3, h4⟩ := A.flag.1 h1
  have h5 := (mean_good s.1 s.2).2 ⟨h3, fun i hi => by rw [c h1 i hi]; exact h2 i hi⟩
  have := F.val h i hi 0 (by omega)
  rw [show 0 + i * 1 + 0 = i by omega] at this
  rw [mean_val h5 hi, this, c h1 i hi]
theorem fless_good (x m : Nat → Int) (b : Bool) : (flessS b x m).2 = false ↔ b = false ∧ ∀ k, k < 13 → ∀ i, i < 6 → (subS false (x (k * 6 + i)) (m i)).2 = false := by
 rw [fless_is]
 exact (less_ref x m b).good
theorem fless_val {x m : Nat → Int} {b : Bool} (h : (flessS b x m).2 = false) {k i : Nat} (hk : k < 13) (hi : i < 6) : (flessS b x m).1 (k * 6 + i) = (subS false (x (k * 6 + i)) (m i)).1 := by
 rw [fless_is] at h ⊢
 have := (less_ref x m b).val h k hk i hi
 rw [show 0 + k * 6 + i = k * 6 + i by omega] at this
 exact this
theorem less_stage {H : Prop} {s t : (Nat → Int) × Bool} (A : Agr H 6 s t) {x y : Nat → Int} (hx : t.2 = false → ∀ i, i < 78 → x i = y i) : Agr H 78 (hbesideS s.2 x s.1) (flessS t.2 y t.1) := by
 have c : t.2 = false → ∀ k, k < 13 → ∀ i, i < 6 → subS false (x (k * 6 + i)) (s.1 i) = subS false (y (k * 6 + i)) (t.1 i) := fun h k hk i hi => by rw [hx h _ (by omega), A.cell h i hi]
 refine ⟨⟨fun h => ?_, fun h => ?_⟩, fun h e he => ?_⟩
 ·obtain ⟨h1, h2⟩ := (fless_good _ _ _).1 h
  obtain ⟨h3, h4⟩ := A.flag.1 h1
  exact ⟨(beside_good _ _ _).2 ⟨h3, fun k hk i hi => by rw [c h1 k hk i hi]; exact h2 k hk i hi⟩, h4⟩
 ·obtain ⟨h3, h5⟩ := (beside_good _ _ _).1 h.1
  have h1 := A.flag.2 ⟨h3, h.2⟩
  exact (fless_good _ _ _).2 ⟨h1, fun k hk i hi => by rw [← c h1 k hk i hi]; exact h5 k hk i hi⟩
 ·obtain ⟨h1, h2⟩ := (fless_good _ _ _).1 h
  obtain ⟨h3, h4⟩ := A.flag.1 h1
  have h5 := (beside_good x s.1 s.2).2 ⟨h3, fun k hk i hi => by rw [c h1 k hk i hi]; exact h2 k hk i hi⟩
  obtain ⟨k, i, hk, hi, rfl⟩ : ∃ k i, k < 13 ∧ i < 6 ∧ e = k * 6 + i := ⟨e / 6, e % 6, by omega, by omega, by omega⟩
  rw [beside_val h5 hk hi, fless_val h hk hi, c h1 k hk i hi]
theorem prods_congr {x y x' y' : Nat → Int} (hx : ∀ i, i < 78 → x i = x' i) (hy : ∀ i, i < 78 → y i = y' i) {i j : Nat} (hi : i < 6) (hj : j < 6) : fproductsS false x i y j = fproductsS false x' i y' j :=
 prod_congr (fun k hk => hx _ (by omega)) (fun k hk => hy _ (by omega)) false
theorem parts_split (p : Nat → Prop) (h : ∀ i, i < 6 → ∀ j, j < 6 → p (i * 6 + j)) (e : Nat) (he : e < 36) : p e := by
 have := h (e / 6) (by omega) (e % 6) (by omega)
 rw [show e / 6 * 6 + e % 6 = e by omega] at this
 exact this
theorem bool_eq {a b : Bool} (h : a = false ↔ b = false) : a = b := by
 cases a <;> cases b
 ·rfl
 ·exact absurd (h.1 rfl) (by decide)
 ·exact absurd (h.2 rfl) (by decide)
 ·rfl
theorem q4_0 (y : Nat → Int) : q4 y 0 = ((y 0), (y 1), (y 2), (y 3)) := rfl
/-- What the parts of a guess are. -/
theorem guess_cells (q : V4) (v : V3) (p : Nat → Int) : guessF q v p 0 = q.1 ∧ guessF q v p 1 = q.2.1 ∧ guessF q v p 2 = q.2.2.1 ∧ guessF q v p 3 = q.2.2.2 ∧ guessF q v p 4 = v.1 ∧ guessF q v p 5 = v.2.1 ∧ guessF q v p 6 = v.2.2 ∧ ∀ e, guessF q v p (7 + e) = p e := by
 refine ⟨rfl, rfl, rfl, rfl, rfl, rfl, rfl, fun e => ?_⟩
 unfold guessF
 rw [if_neg (by omega), show 7 + e - 7 = e by omega]
theorem upd7_cells (m : Nat → Int) (q : V4) (v : V3) : ∀ i, (updF (updF (updF (updF (updF (updF (updF m 0 q.1) 1 q.2.1) 2 q.2.2.1) 3 q.2.2.2) 4 v.1) 5 v.2.1) 6 v.2.2) i = guessF q v (fun e => m (7 + e)) i := fun i => by
 unfold guessF updF
 by_cases h : i < 7
 ·rw [if_pos h]
  have : i = 0 ∨ i = 1 ∨ i = 2 ∨ i = 3 ∨ i = 4 ∨ i = 5 ∨ i = 6 := by omega
  rcases this with rfl | rfl | rfl | rfl | rfl | rfl | rfl <;> simp
 ·rw [if_neg h, if_neg (by omega), if_neg (by omega), if_neg (by omega), if_neg (by omega), if_neg (by omega), if_neg (by omega), if_neg (by omega)]
  show m i = m (7 + (i - 7))
  rw [show 7 + (i - 7) = i by omega]
theorem guess_congr {q : V4} {v : V3} {p p' : Nat → Int} (h : ∀ e, e < 36 → p e = p' e) (i : Nat) (hi : i < 43) : guessF q v p i = guessF q v p' i := by
 unfold guessF
 by_cases k : i < 7
 ·rw [if_pos k, if_pos k]
 ·rw [if_neg k, if_neg k, h _ (by omega)]
theorem either_lo {i : Nat} (h : i < 3) (p q : Int) : heitherP i p q = p := by unfold heitherP; rw [if_pos (by omega)]
theorem either_hi {i : Nat} (h : 3 ≤ i) (p q : Int) : heitherP i p q = q := by unfold heitherP; rw [if_neg (by omega)]
theorem sound_bad (g : Nat → Int) : hsoundS true g = ((fun _ => 0), true) := rfl
theorem sound_good (g : Nat → Int) : hsoundS false g = (g, false) := rfl

theorem move_core (b : Bool) (g : Nat → Int) (v : V3) (ms : Int) (n1 : ¬ ms < 10) (n2 : ¬ ms > 10000) : (hMoveS b g v ms).2 = (fMoveinS b g v ms).2 ∧ ∀ i, i < 43 → (hMoveS b g v ms).1 i = (fMoveinS b g v ms).1 i := by
 obtain ⟨r1, r4, r5, r6, r8, r9, r12, r13, r15, r16, r17, r20, e1, e4, e5, e6, e8, e9, e12, e13, e15, e16, e17, e20, eR⟩ := fMove_chain b g v ms
 obtain ⟨c1, c3, c5, c6, c8, c10, c12, c14, c15, c16, c17, c18, d1, d3, d5, d6, d8, d10, d12, d14, d15, d16, d17, d18, dC⟩ := hMove_chain b g v ms n1 n2
 have e17' : r17 = hturnedS r13.2 r5.1 r8.1 := by rw [e17]; exact turned_is r13.2 r5.1 r8.1 e15 e16
 have e20' : r20 = hbiasedS r17.2 ((g 4), (g 5), (g 6)) r8.1 := by rw [e20]; exact biased_is _ _ _
 rw [eR, dC]
 clear eR dC e15 e16 e17 e20
 -- points
 have f1 : r1.2 = c1.2 := by rw [e1, d1]; exact fPoints_flag b g
 have g1 : c1.2 = false → r1 = c1 := fun h => by rw [d1] at h; rw [e1, d1]; exact fPoints_good h
 -- how the body stands then
 have F4 := then_ref g v ms r1 r1.2
 have A4 : Agr True 52 c3 r4 := by
  have k : r4.2 = false ↔ c3.2 = false := by
   rw [e4, F4.good, d3, moved_good]
   constructor
   ·rintro ⟨h1, h2⟩
    have hc : c1.2 = false := by rw [← f1]; exact h1
    rw [g1 hc] at h2
    exact ⟨hc, (h2 0 (by omega)).1, fun k hk => (h2 k hk).2⟩
   ·rintro ⟨hc, h2, h3⟩
    rw [g1 hc]
    exact ⟨hc, fun k hk => ⟨h2, h3 k hk⟩⟩
  refine ⟨⟨fun h => ⟨k.1 h, trivial⟩, fun h => k.2 h.1⟩, fun h e he => ?_⟩
  obtain ⟨k, i, hk, hi, rfl⟩ : ∃ k i, k < 13 ∧ i < 4 ∧ e = k * 4 + i := ⟨e / 4, e % 4, by omega, by omega, by omega⟩
  have hr := h
  rw [e4] at hr
  have hc1 : c1.2 = false := by rw [← f1]; exact (F4.good.1 hr).1
  have hv := F4.val hr k hk i hi
  rw [show 0 + k * 4 + i = k * 4 + i by omega] at hv
  have hc3 := (show r4.2 = false ↔ c3.2 = false from ‹_›).1 h
  rw [d3] at hc3
  rw [e4, hv, d3, moved_val hc3 hk hi, g1 hc1]
 have b4 : r4.2 = c3.2 := bool_eq ⟨fun h => (A4.flag.1 h).1, fun h => A4.flag.2 ⟨h, trivial⟩⟩
 -- the new attitude
 have q5 : r5 = c5 := by
  rw [e5, d5, b4]
  cases hb : c3.2
  ·have hr : r4.2 = false := by rw [b4]; exact hb
   rw [← q4_0, ← q4_0, q4_eq (y := r4.1) (z := c3.1) (fun j hj => (A4.cell hr _ (by omega)).symm)]
  ·rw [qUnit_true, qUnit_true]
 have g5 : c5.2 = false → r4.2 = false ∧ c1.2 = false := fun h => by
  rw [d5] at h
  have h3 := (qUnit_a h).1
  refine ⟨by rw [b4]; exact h3, ?_⟩
  rw [d3] at h3
  exact ((moved_good _ _ _ _ _).1 h3).1
 have y5 : c5.2 = false → ∀ k, k < 13 → q4 r4.1 (k * 4) = q4 c3.1 (k * 4) := fun h k hk => q4_eq (fun j hj => (A4.cell (g5 h).1 _ (by omega)).symm)
 -- the turns from it
 have F6 := around_ref r4 r5 r1.1 r5.2
 have A6 : Agr True 78 c6 r6 := by
  have k : r6.2 = false ↔ c6.2 = false := by
   rw [e6, F6.good, d6, around_good, q5]
   constructor
   ·rintro ⟨h1, h2⟩
    exact ⟨h1, fun k hk => by rw [← y5 h1 k hk]; exact h2 k hk⟩
   ·rintro ⟨h1, h2⟩
    exact ⟨h1, fun k hk => by rw [y5 h1 k hk]; exact h2 k hk⟩
  refine ⟨⟨fun h => ⟨k.1 h, trivial⟩, fun h => k.2 h.1⟩, fun h e he => ?_⟩
  have hc := k.1 h
  obtain ⟨k, i, hk, hi, rfl⟩ : ∃ k i, k < 13 ∧ i < 6 ∧ e = k * 6 + i := ⟨e / 6, e % 6, by omega, by omega, by omega⟩
  have hr := h
  rw [e6] at hr
  have h5 : c5.2 = false := by have := (F6.good.1 hr).1; rw [q5] at this; exact this
  rw [d6] at hc
  rw [d6, around_val hc hk hi]
  by_cases h3 : i < 3
  ·have hv := F6.val hr k hk i h3
   rw [show 0 + k * 6 + i = k * 6 + i by omega] at hv
   rw [if_pos h3, e6, hv, q5, y5 h5 k hk]
  ·have hv := F6.rest (k * 6 + i) (fun k' hk' => by omega)
   rw [if_neg h3, e6, hv, ← g1 (g5 h5).2]
   rfl
 -- their mean, and what they are less it
 have F8 := mean_ref r6 r6.2
 have A8 : Agr True 6 c8 r8 := by rw [d8, e8]; exact mean_stage A6 rfl F8
 have A9 : Agr True 78 c10 r9 := by
  rw [d10, e9]
  refine less_stage A8 (fun h i hi => A6.cell ?_ i hi)
  rw [e8] at h
  exact (F8.good.1 h).1
 have g9 : r9.2 = false → r8.2 = false := fun h => by rw [e9] at h; exact ((fless_good _ _ _).1 h).1
 -- the means of products
 have F12 := prod_ref r9 r9.2
 have p9 : r9.2 = false → ∀ i, i < 6 → ∀ j, j < 6 → fproductsS false c10.1 i c10.1 j = fproductsS false r9.1 i r9.1 j := fun h i hi j hj => prods_congr (A9.cell h) (A9.cell h) hi hj
 have b12 : r12.2 = false ↔ c12.2 = false := by
  rw [e12, F12.good, d12, prod_good]
  constructor
  ·rintro ⟨h1, h2⟩
   exact ⟨(A9.flag.1 h1).1, fun i hi j hj => by rw [p9 h1 i hi j hj]; exact h2 i hi j hj⟩
  ·rintro ⟨h1, h2⟩
   have h9 := A9.flag.2 ⟨h1, trivial⟩
   exact ⟨h9, fun i hi j hj => by rw [← p9 h9 i hi j hj]; exact h2 i hi j hj⟩
 have g12 : r12.2 = false → r9.2 = false := fun h => by rw [e12] at h; exact (F12.good.1 h).1
 have v12 : r12.2 = false → ∀ e, e < 36 → r12.1 (7 + e) = c12.1 e := fun h => parts_split (fun e => r12.1 (7 + e) = c12.1 e) (fun i hi j hj => by
  have hc := b12.1 h
  have hr := h
  rw [e12] at hr
  rw [d12] at hc
  have hv := F12.val hr i hi j hj
  rw [show 7 + i * 6 + j = 7 + (i * 6 + j) by omega] at hv
  rw [e12, hv, d12, prod_val hc hi hj, p9 (g12 h) i hi j hj])
 -- the rest, in the two orders
 have R := raise_ref ms (r12.1, r12.2) 3 (by omega)
 rw [← e13] at R
 have tC : r12.2 = false → hturnedS false r5.1 r8.1 = hturnedS false c5.1 c8.1 := fun h => by rw [q5]; exact turned_congr (fun i hi => (A8.cell (g9 (g12 h)) i hi).symm) false c5.1
 have bC : r12.2 = false → hbiasedS false ((g 4), (g 5), (g 6)) r8.1 = hbiasedS false ((g 4), (g 5), (g 6)) c8.1 := fun h => biased_congr (fun i hi => (A8.cell (g9 (g12 h)) i hi).symm) false _
 have fwd : r20.2 = false → c18.2 = false ∧ r12.2 = false ∧ c12.2 = false ∧ r13.2 = false ∧ r17.2 = false ∧ c14.2 = false ∧ c15.2 = false ∧ c16.2 = false := fun h => by
  have h20 := h
  rw [e20'] at h20
  obtain ⟨h17, hB⟩ := biased_a h20
  have h17' := h17
  rw [e17'] at h17'
  obtain ⟨h13, hT⟩ := turned_a h17'
  obtain ⟨h12, hR⟩ := R.good.1 h13
  dsimp only at h12 hR
  have hc := b12.1 h12
  have k14 : c14.2 = false := by rw [d14, hc, ← tC h12]; exact hT
  have k15 : c15.2 = false := by rw [d15, k14, ← bC h12]; exact hB
  have hP := (hR 0 (by omega)).1
  have k16 : c16.2 = false := by rw [d16, k15]; exact hP.1
  have k17 : c17.2 = false := by rw [d17, k16]; exact hP.2
  refine ⟨?_, h12, hc, h13, h17, k14, k15, k16⟩
  rw [d18, raised_good]
  refine ⟨k17, fun i hi => ?_⟩
  have w16 : c16.1 = (partS false 65536 ms 1000).1 := by rw [d16, k15]
  have w17 : c17.1 = (partS false 1024 ms 1000).1 := by rw [d17, k16]
  by_cases h3 : i < 3
  ·rw [either_lo h3, w16, ← v12 h12 (i * 7) (by omega)]
   exact (hR i h3).2.1
  ·rw [either_hi (by omega), w17, ← v12 h12 (i * 7) (by omega)]
   have := (hR (i - 3) (by omega)).2.2
   rw [show 28 + (i - 3) * 7 = 7 + i * 7 by omega] at this
   exact this
 have bwd : c18.2 = false → r20.2 = false := fun h => by
  rw [d18, raised_good] at h
  obtain ⟨h17, hA⟩ := h
  have h17' := h17
  rw [d17] at h17'
  obtain ⟨h16, hP2⟩ := part_a h17'
  have h16' := h16
  rw [d16] at h16'
  obtain ⟨h15, hP1⟩ := part_a h16'
  have w16 : c16.1 = (partS false 65536 ms 1000).1 := by rw [d16, h15]
  have w17 : c17.1 = (partS false 1024 ms 1000).1 := by rw [d17, h16]
  rw [d15] at h15
  obtain ⟨h14, hB⟩ := biased_a h15
  rw [d14] at h14
  obtain ⟨h12, hT⟩ := turned_a h14
  have k12 := b12.2 h12
  have k13 : r13.2 = false := R.good.2 ⟨k12, fun i hi => ⟨⟨hP1, hP2⟩, by
   have := hA i (by omega)
   rw [either_lo hi, w16, ← v12 k12 (i * 7) (by omega)] at this
   exact this, by
   have := hA (i + 3) (by omega)
   rw [either_hi (by omega), w17, ← v12 k12 ((i + 3) * 7) (by omega), show 7 + (i + 3) * 7 = 28 + i * 7 by omega] at this
   exact this⟩⟩
  have k17 : r17.2 = false := by rw [e17', k13, tC k12]; exact hT
  rw [e20', k17, bC k12]
  exact hB
 cases hr : r20.2
 ·obtain ⟨k18, h12, hc, h13, h17, k14, k15, k16⟩ := fwd hr
  rw [k18, sound_good, if_neg (by decide)]
  refine ⟨rfl, fun i hi => ?_⟩
  dsimp only
  have x17 : r17.1 = c14.1 := by rw [e17', h13, d14, hc, tC h12]
  have x20 : r20.1 = c15.1 := by rw [e20', h17, d15, k14, bC h12]
  rw [upd7_cells, x17, x20]
  have w16 : c16.1 = (partS false 65536 ms 1000).1 := by rw [d16, k15]
  have w17 : c17.1 = (partS false 1024 ms 1000).1 := by rw [d17, k16]
  have k18' := k18
  rw [d18] at k18'
  refine guess_congr (fun e he => ?_) i hi
  by_cases hd : ∃ i, i < 6 ∧ e = i * 7
  ·obtain ⟨i, hi, rfl⟩ := hd
   rw [d18, raised_val k18' hi]
   by_cases h3 : i < 3
   ·have := R.lo h13 i h3
    rw [either_lo h3, w16, ← v12 h12 (i * 7) (by omega), this]
   ·have := R.hi h13 (i - 3) (by omega)
    rw [show 28 + (i - 3) * 7 = 7 + i * 7 by omega] at this
    rw [either_hi (by omega), w17, ← v12 h12 (i * 7) (by omega), this]
  ·have hn : ∀ i, i < 6 → e ≠ i * 7 := fun i hi h => hd ⟨i, hi, h⟩
   rw [d18, raised_off _ _ _ _ hn, ← v12 h12 e he]
   refine (R.rest (7 + e) (fun i hi => ⟨fun h => hn i (by omega) (by omega), fun h => hn (i + 3) (by omega) (by omega)⟩)).symm
 ·have k18 : c18.2 = true := by
   cases hc : c18.2
   ·rw [bwd hc] at hr; cases hr
   ·rfl
  rw [k18, sound_bad]
  exact ⟨rfl, fun _ _ => rfl⟩
theorem fMove_true (g : Nat → Int) (v : V3) (ms : Int) : fMoveinS true g v ms = ((fun _ => 0), true) := by
 obtain ⟨r1, r4, r5, r6, r8, r9, r12, r13, r15, r16, r17, r20, e1, e4, e5, e6, e8, e9, e12, e13, e15, e16, e17, e20, eR⟩ := fMove_chain true g v ms
 have e17' : r17 = hturnedS r13.2 r5.1 r8.1 := by rw [e17]; exact turned_is r13.2 r5.1 r8.1 e15 e16
 have e20' : r20 = hbiasedS r17.2 ((g 4), (g 5), (g 6)) r8.1 := by rw [e20]; exact biased_is _ _ _
 rw [eR]
 have : r20.2 = true := by
  cases h : r20.2
  ·rw [e20'] at h
   have h17 := (biased_a h).1
   rw [e17'] at h17
   have h13 := (turned_a h17).1
   have R := raise_ref ms (r12.1, r12.2) 3 (by omega)
   rw [← e13] at R
   have h12 : r12.2 = false := (R.good.1 h13).1
   rw [e12] at h12
   have h9 : r9.2 = false := ((prod_ref r9 r9.2).good.1 h12).1
   rw [e9] at h9
   have h8 := ((fless_good _ _ _).1 h9).1
   rw [e8] at h8
   have h6 : r6.2 = false := ((mean_ref r6 r6.2).good.1 h8).1
   rw [e6] at h6
   have h5 : r5.2 = false := ((around_ref r4 r5 r1.1 r5.2).good.1 h6).1
   rw [e5] at h5
   have h4 := (qUnit_a h5).1
   rw [e4] at h4
   have h1 : r1.2 = false := ((then_ref g v ms r1 r1.2).good.1 h4).1
   rw [e1, fPoints_flag, pts_true] at h1
   cases h1
  ·rfl
 rw [this]
 rfl
end Go.Proofs.YtpjobkbefgehjaaGreat
