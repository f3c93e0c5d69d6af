/-
  Loops that fill rows, and means of thirteen, as the code and as the document work them: the same, for the seat YtoadcnhcfodkgaaGreatDoor. No Go text in sight.
-/
import Derived.Test.YtoadcnhcfodkgaaGreatDoorFCSpec
import Derived.Test.YtoadcnhcfodkgaaGreatDoorMSix
import Derived.Test.YtoadcnhcfodkgaaGreatDoorQEqv
namespace Go.Proofs.YtoadcnhcfodkgaaGreatDoor
open Go.RowKit

/-! ### Bad stays bad -/
theorem mul_swap (bad : Bool) (a b : Int) : mulS bad a b = mulS bad b a := by
  cases h : tk bad [a, b]
  · rw [mulS_no h, mulS_no (by rw [← h]; cases bad <;> simp [tk, Bool.and_comm])]
  · rw [mulS_yes h, mulS_yes (by rw [← h]; cases bad <;> simp [tk, Bool.and_comm]), Int.mul_comm (sz a)]
    cases decide (a < 0) <;> cases decide (b < 0) <;> rfl
theorem pt_true (a p q : Int) : partS true a p q = (0, true) := partS_no (tk_true _)
theorem qMul_true (p q : V4) : (qMulS true p q).2 = true := by
  unfold qMulS
  simp [vScale_true, vAdd_true, vCross_true, mulS_true, vDot_true, subS_true, sound4S_yes]
theorem qTurn_true (q : V4) (v : V3) : (qTurnS true q v).2 = true := by
  unfold qTurnS
  simp [vScale_true, vAdd_true, vCross_true, vSub_true]
theorem qFrom_true (p : V3) : (qFromRodS true p).2 = true := by
  unfold qFromRodS
  simp [vDot_true, addS_true, mulS_true, divS_true, subS_true, qUnit_true]
theorem qTo_true (q : V4) : (qToRodS true q).2 = true := by
  unfold qToRodS
  simp [addS_true, mulS_true, divS_true, soundS_yes]
/-- What is good behind a step was good ahead of it. -/
theorem ahead {α : Type} {b : Bool} {X : Bool → α × Bool} (hX : (X true).2 = true) (h : (X b).2 = false) : b = false ∧ (X false).2 = false := by
  cases b
  · exact ⟨rfl, h⟩
  · rw [hX] at h; cases h
theorem add_a {b : Bool} {x y : Int} (h : (addS b x y).2 = false) : b = false ∧ (addS false x y).2 = false := ahead (X := fun b => addS b x y) (by rw [addS_true]) h
theorem sub_a {b : Bool} {x y : Int} (h : (subS b x y).2 = false) : b = false ∧ (subS false x y).2 = false := ahead (X := fun b => subS b x y) (by rw [subS_true]) h
theorem mul_a {b : Bool} {x y : Int} (h : (mulS b x y).2 = false) : b = false ∧ (mulS false x y).2 = false := ahead (X := fun b => mulS b x y) (by rw [mulS_true]) h
theorem part_a {b : Bool} {x y z : Int} (h : (partS b x y z).2 = false) : b = false ∧ (partS false x y z).2 = false := ahead (X := fun b => partS b x y z) (by rw [pt_true]) h
theorem vSub_a {b : Bool} {x y : V3} (h : (vSubS b x y).2 = false) : b = false ∧ (vSubS false x y).2 = false := ahead (X := fun b => vSubS b x y) (by rw [vSub_true]) h
theorem vAdd_a {b : Bool} {x y : V3} (h : (vAddS b x y).2 = false) : b = false ∧ (vAddS false x y).2 = false := ahead (X := fun b => vAddS b x y) (by rw [vAdd_true]) h
theorem vUnit_a {b : Bool} {x : V3} (h : (vUnitS b x).2 = false) : b = false ∧ (vUnitS false x).2 = false := ahead (X := fun b => vUnitS b x) (by rw [vUnit_true]) h
theorem qMul_a {b : Bool} {x y : V4} (h : (qMulS b x y).2 = false) : b = false ∧ (qMulS false x y).2 = false := ahead (X := fun b => qMulS b x y) (qMul_true x y) h
theorem qTurn_a {b : Bool} {x : V4} {y : V3} (h : (qTurnS b x y).2 = false) : b = false ∧ (qTurnS false x y).2 = false := ahead (X := fun b => qTurnS b x y) (qTurn_true x y) h
theorem qFrom_a {b : Bool} {x : V3} (h : (qFromRodS b x).2 = false) : b = false ∧ (qFromRodS false x).2 = false := ahead (X := fun b => qFromRodS b x) (qFrom_true x) h
theorem qTo_a {b : Bool} {x : V4} (h : (qToRodS b x).2 = false) : b = false ∧ (qToRodS false x).2 = false := ahead (X := fun b => qToRodS b x) (qTo_true x) h
theorem qUnit_a {b : Bool} {x : V4} (h : (qUnitS b x).2 = false) : b = false ∧ (qUnitS false x).2 = false := ahead (X := fun b => qUnitS b x) (by rw [qUnit_true]) h
theorem root_a {b : Bool} {m : Nat → Int} (h : (zRoot6 b m).2 = false) : b = false ∧ (zRoot6 false m).2 = false := ahead (X := fun b => zRoot6 b m) rfl h
theorem solve_a {b : Bool} {l p : Nat → Int} (h : (zSolve6 b l p).2 = false) : b = false ∧ (zSolve6 false l p).2 = false := ahead (X := fun b => zSolve6 b l p) rfl h
theorem apply_a {b : Bool} {m p : Nat → Int} (h : (zApply6 b m p).2 = false) : b = false ∧ (zApply6 false m p).2 = false := ahead (X := fun b => zApply6 b m p) rfl h

/-! ### Loops -/
theorem eta2 {α β : Type} (t : α × β) : (t.1, t.2) = t := rfl
theorem updF_at (g : Nat → Int) (o : Nat) (v : Int) : updF g o v o = v := by unfold updF; rw [if_pos rfl]
theorem updF_off (g : Nat → Int) {o i : Nat} (v : Int) (h : i ≠ o) : updF g o v i = g i := by unfold updF; rw [if_neg h]
/-- A loop whose rounds fill places of their own: what it came to, and where it is good. -/
structure Fills (L : Nat → (Nat → Int) × Bool) (G : Nat → Prop) (v : Nat → Nat → Int) (o T W m : Nat) : Prop where
  good : (L m).2 = false ↔ (L 0).2 = false ∧ ∀ k, k < m → G k
  val : (L m).2 = false → ∀ k, k < m → ∀ j, j < W → (L m).1 (o + k * T + j) = v k j
  rest : ∀ i, (∀ k, k < m → i < o + k * T ∨ o + k * T + W ≤ i) → (L m).1 i = (L 0).1 i
theorem fills {L : Nat → (Nat → Int) × Bool} {G : Nat → Prop} {v : Nat → Nat → Int} {o T W n : Nat} (hT : W ≤ T)
    (hs : ∀ k, k < n → ∀ s : (Nat → Int) × Bool, s = L k → (∀ j, j < W → s.1 (o + k * T + j) = (L 0).1 (o + k * T + j)) →
      ((L (k + 1)).2 = false ↔ s.2 = false ∧ G k) ∧ ((L (k + 1)).2 = false → ∀ j, j < W → (L (k + 1)).1 (o + k * T + j) = v k j) ∧ ∀ i, (i < o + k * T ∨ o + k * T + W ≤ i) → (L (k + 1)).1 i = s.1 i) :
    ∀ m, m ≤ n → Fills L G v o T W m
  | 0, _ => ⟨⟨fun h => ⟨h, fun k hk => absurd hk (Nat.not_lt_zero k)⟩, fun h => h.1⟩, fun _ k hk => absurd hk (Nat.not_lt_zero k), fun _ _ => rfl⟩
  | m + 1, hm => by
    have ih := fills hT hs m (by omega)
    have far : ∀ k, k < m → o + k * T + W ≤ o + m * T := fun k hk => by
      have : (k + 1) * T ≤ m * T := Nat.mul_le_mul_right T hk
      rw [Nat.succ_mul] at this
      omega
    obtain ⟨s1, s2, s3⟩ := hs m (by omega) (L m) rfl (fun j hj => ih.rest _ (fun k hk => Or.inr (by have := far k hk; omega)))
    refine ⟨⟨fun h => ?_, fun h => ?_⟩, fun h k hk j hj => ?_, fun i hi => ?_⟩
    · obtain ⟨e, g⟩ := s1.1 h
      obtain ⟨z, r⟩ := ih.good.1 e
      exact ⟨z, fun k hk => by
        rcases Nat.lt_succ_iff_lt_or_eq.1 hk with hk | rfl
        · exact r k hk
        · exact g⟩
    · exact s1.2 ⟨ih.good.2 ⟨h.1, fun k hk => h.2 k (by omega)⟩, h.2 m (by omega)⟩
    · obtain ⟨e, g⟩ := s1.1 h
      rcases Nat.lt_succ_iff_lt_or_eq.1 hk with hk | rfl
      · rw [s3 _ (Or.inl (by have := far k hk; omega))]
        exact ih.val e k hk j hj
      · exact s2 h j hj
    · rw [s3 i (hi m (by omega))]
      exact ih.rest i (fun k hk => hi k (by omega))
/-- A round of one step. -/
theorem one_step {X : Bool → Int × Bool} (hX : (X true).2 = true) (b : Bool) : (X b).2 = false ↔ b = false ∧ (X false).2 = false :=
  ⟨fun h => ahead hX h, fun h => by rw [h.1]; exact h.2⟩
theorem one_val {X : Bool → Int × Bool} (hX : (X true).2 = true) {b : Bool} (h : (X b).2 = false) : (X b).1 = (X false).1 := by rw [(ahead hX h).1]

/-! ### Means of thirteen -/
theorem add_twice (b : Bool) (x : Int) : addS (addS b 0 x).2 (addS b 0 x).1 x = addS b x x := by
  cases b
  · cases hx : numB x
    · have e1 : addS false 0 x = (0, true) := by unfold addS tk; simp [hx]
      have e2 : addS false x x = (0, true) := by unfold addS tk; simp [hx]
      rw [e1, e2, addS_true]
    · have e1 : addS false 0 x = (x, false) := by
        unfold addS tk gv
        have h0 : numB 0 = true := by decide
        simp [hx, h0]
      rw [e1]
  · rw [addS_true, addS_true, addS_true]
theorem mid_l0 {x col : Nat → Int} {i : Nat} (hc : ∀ k, k < 13 → col k = x (k * 6 + i)) (b : Bool) : ∀ k, k ≤ 12 →
    hmiddleS_l0 col (col 0, b) (k + 1) = fmeanS_l0 x i ((addS (addS b 0 (x i)).2 (addS b 0 (x i)).1 (x i)).1, (addS (addS b 0 (x i)).2 (addS b 0 (x i)).1 (x i)).2) k
  | 0, _ => by
    have h0 : col 0 = x i := by rw [hc 0 (by omega)]; congr 1; omega
    show hmiddleS_l0s col 0 (col 0, b) = _
    unfold hmiddleS_l0s fmeanS_l0
    dsimp only
    rw [h0, add_twice]
  | k + 1, hk => by
    have ih := mid_l0 hc b k (by omega)
    show hmiddleS_l0s col (k + 1) (hmiddleS_l0 col (col 0, b) (k + 1)) = fmeanS_l0s x i k _
    rw [ih]
    unfold hmiddleS_l0s fmeanS_l0s
    dsimp only
    rw [hc (k + 1) (by omega)]
theorem mid_eq {x col : Nat → Int} {i : Nat} (hc : ∀ k, k < 13 → col k = x (k * 6 + i)) (b : Bool) : hmiddleS b col = fmeanS b x i := by
  unfold hmiddleS fmeanS
  dsimp only
  rw [mid_l0 hc b 12 (by omega)]
theorem mean_congr {x y : Nat → Int} {i : Nat} (h : ∀ k, k < 13 → x (k * 6 + i) = y (k * 6 + i)) (b : Bool) : fmeanS b x i = fmeanS b y i := by
  rw [← mid_eq (x := x) (col := fun k => x (k * 6 + i)) (fun _ _ => rfl), ← mid_eq (x := y) (col := fun k => x (k * 6 + i)) h]
theorem mean_true (x : Nat → Int) (i : Nat) : (fmeanS true x i).2 = true := by
  have : ∀ (z : Int × Bool) (hz : z.2 = true) (k : Nat), (fmeanS_l0 x i z k).2 = true := fun z hz k => by
    induction k with
    | zero => exact hz
    | succ k ih => rw [fmeanS_l0_succ]; unfold fmeanS_l0s; dsimp only; rw [ih, addS_true]
  unfold fmeanS
  dsimp only
  rw [addS_true, this _ (by rw [addS_true]), pt_true]
theorem mean_a {b : Bool} {x : Nat → Int} {i : Nat} (h : (fmeanS b x i).2 = false) : b = false ∧ (fmeanS false x i).2 = false := ahead (X := fun b => fmeanS b x i) (mean_true x i) h
theorem col_is (x : Nat → Int) (i : Nat) : ∀ n k, k < n → hmeanS_l1 x i (fun _ => 0) n k = x (k * 6 + i)
  | n + 1, k, hk => by
    rw [hmeanS_l1_succ]
    unfold hmeanS_l1s
    by_cases e : k = n
    · subst e; rw [updF_at]
    · rw [updF_off _ _ e]; exact col_is x i n k (by omega)
/-- The means of the columns. -/
theorem mean_fills (x : Nat → Int) (b : Bool) : Fills (hmeanS_l0 x ((fun _ => 0), b)) (fun i => (fmeanS false x i).2 = false) (fun i _ => (fmeanS false x i).1) 0 1 1 6 := by
  refine fills (n := 6) (by omega) (fun k hk s hs _ => ?_) 6 (by omega)
  rw [hmeanS_l0_succ, ← hs]
  unfold hmeanS_l0s
  dsimp only
  rw [mid_eq (x := x) (i := k) (fun c hc => col_is x k 13 c hc)]
  have hX := mean_true x k
  refine ⟨one_step (X := fun b => fmeanS b x k) hX s.2, fun h j hj => ?_, fun i hi => updF_off _ _ (by omega)⟩
  obtain rfl : j = 0 := by omega
  rw [show 0 + k * 1 + 0 = k by omega, updF_at]
  exact one_val (X := fun b => fmeanS b x k) hX h

/-! ### Means of products -/
theorem prod_l2 (x y : Nat → Int) (i j : Nat) (b : Bool) : ∀ n, (hproductsS_l2 x y i j ((fun _ => 0), b) n).2 = (fproductsS_l0 x i y j ((fun _ => 0), b) n).2 ∧
    ∀ k, k < n → (hproductsS_l2 x y i j ((fun _ => 0), b) n).1 k = (fproductsS_l0 x i y j ((fun _ => 0), b) n).1 (k * 6)
  | 0 => ⟨rfl, fun k hk => absurd hk (Nat.not_lt_zero k)⟩
  | n + 1 => by
    obtain ⟨h1, h2⟩ := prod_l2 x y i j b n
    rw [hproductsS_l2_succ, fproductsS_l0_succ]
    unfold hproductsS_l2s fproductsS_l0s
    dsimp only
    rw [h1]
    refine ⟨rfl, fun k hk => ?_⟩
    by_cases e : k = n
    · subst e; rw [updF_at, updF_at]
    · rw [updF_off _ _ e, updF_off _ _ (by omega)]; exact h2 k (by omega)
theorem prod_eq (x y : Nat → Int) (i j : Nat) (b : Bool) : hmiddleS (hproductsS_l2 x y i j ((fun _ => 0), b) 13).2 (hproductsS_l2 x y i j ((fun _ => 0), b) 13).1 = fproductsS b x i y j := by
  obtain ⟨h1, h2⟩ := prod_l2 x y i j b 13
  unfold fproductsS
  dsimp only
  rw [h1, mid_eq (x := (fproductsS_l0 x i y j ((fun _ => 0), b) 13).1) (i := 0) (fun k hk => by rw [h2 k hk]; rfl)]
theorem prod_true (x y : Nat → Int) (i j : Nat) : (fproductsS true x i y j).2 = true := by
  have : ∀ k, (fproductsS_l0 x i y j ((fun _ => 0), true) k).2 = true := fun k => by
    induction k with
    | zero => rfl
    | succ k ih => rw [fproductsS_l0_succ]; unfold fproductsS_l0s; dsimp only; rw [ih, mulS_true]
  unfold fproductsS
  dsimp only
  rw [this, mean_true]
theorem prod_a {b : Bool} {x y : Nat → Int} {i j : Nat} (h : (fproductsS b x i y j).2 = false) : b = false ∧ (fproductsS false x i y j).2 = false := ahead (X := fun b => fproductsS b x i y j) (prod_true x y i j) h
theorem prod_congr {x y x' y' : Nat → Int} {i j : Nat} (hx : ∀ k, k < 13 → x (k * 6 + i) = x' (k * 6 + i)) (hy : ∀ k, k < 13 → y (k * 6 + j) = y' (k * 6 + j)) (b : Bool) : fproductsS b x i y j = fproductsS b x' i y' j := by
  have : ∀ n, n ≤ 13 → fproductsS_l0 x i y j ((fun _ => 0), b) n = fproductsS_l0 x' i y' j ((fun _ => 0), b) n := fun n => by
    induction n with
    | zero => intro _; rfl
    | succ n ih =>
      intro hn
      rw [fproductsS_l0_succ, fproductsS_l0_succ, ih (by omega)]
      unfold fproductsS_l0s
      dsimp only
      rw [hx n (by omega), hy n (by omega)]
  unfold fproductsS
  rw [this 13 (by omega)]
theorem prod_comm (x : Nat → Int) (i j : Nat) (b : Bool) : fproductsS b x i x j = fproductsS b x j x i := by
  have : ∀ n, fproductsS_l0 x i x j ((fun _ => 0), b) n = fproductsS_l0 x j x i ((fun _ => 0), b) n := fun n => by
    induction n with
    | zero => rfl
    | succ n ih =>
      rw [fproductsS_l0_succ, fproductsS_l0_succ, ih]
      unfold fproductsS_l0s
      rw [mul_swap]
  unfold fproductsS
  rw [this 13]
/-- The mean of products, of all numbers of the rows. -/
theorem prod_row (x y : Nat → Int) (i : Nat) (z : (Nat → Int) × Bool) : Fills (hproductsS_l1 x y i z) (fun j => (fproductsS false x i y j).2 = false) (fun j _ => (fproductsS false x i y j).1) (i * 6) 1 1 6 := by
  refine fills (n := 6) (by omega) (fun j hj s hs _ => ?_) 6 (by omega)
  rw [hproductsS_l1_succ, ← hs]
  unfold hproductsS_l1s
  dsimp only
  rw [prod_eq]
  have hX := prod_true x y i j
  refine ⟨one_step (X := fun b => fproductsS b x i y j) hX s.2, fun h c hc => ?_, fun e he => updF_off _ _ (by omega)⟩
  obtain rfl : c = 0 := by omega
  rw [show i * 6 + j * 1 + 0 = i * 6 + j by omega, updF_at]
  exact one_val (X := fun b => fproductsS b x i y j) hX h
theorem prod_fills (x y : Nat → Int) (b : Bool) : Fills (hproductsS_l0 x y ((fun _ => 0), b)) (fun i => ∀ j, j < 6 → (fproductsS false x i y j).2 = false) (fun i j => (fproductsS false x i y j).1) 0 6 6 6 := by
  refine fills (n := 6) (by omega) (fun i hi s hs _ => ?_) 6 (by omega)
  rw [hproductsS_l0_succ, ← hs]
  unfold hproductsS_l0s
  dsimp only
  have F := prod_row x y i (s.1, s.2)
  refine ⟨F.good, fun h j hj => ?_, fun e he => F.rest e (fun k hk => by omega)⟩
  have := F.val h j hj 0 (by omega)
  rw [show i * 6 + j * 1 + 0 = 0 + i * 6 + j by omega] at this
  exact this
theorem hproducts_is (b : Bool) (x y : Nat → Int) : hproductsS b x y = hproductsS_l0 x y ((fun _ => 0), b) 6 := by
  unfold hproductsS
  exact eta2 _
/-- What the mean of products is good at, and what it is. -/
theorem prod_good (x y : Nat → Int) (b : Bool) : (hproductsS b x y).2 = false ↔ b = false ∧ ∀ i, i < 6 → ∀ j, j < 6 → (fproductsS false x i y j).2 = false := by
  rw [hproducts_is]
  exact (prod_fills x y b).good
theorem prod_val {x y : Nat → Int} {b : Bool} (h : (hproductsS b x y).2 = false) {i j : Nat} (hi : i < 6) (hj : j < 6) : (hproductsS b x y).1 (i * 6 + j) = (fproductsS false x i y j).1 := by
  rw [hproducts_is] at h ⊢
  have := (prod_fills x y b).val h i hi j hj
  rw [show 0 + i * 6 + j = i * 6 + j by omega] at this
  exact this
theorem hmean_is (b : Bool) (x : Nat → Int) : hmeanS b x = hmeanS_l0 x ((fun _ => 0), b) 6 := by
  unfold hmeanS
  exact eta2 _
theorem mean_good (x : Nat → Int) (b : Bool) : (hmeanS b x).2 = false ↔ b = false ∧ ∀ i, i < 6 → (fmeanS false x i).2 = false := by
  rw [hmean_is]
  exact (mean_fills x b).good
theorem mean_val {x : Nat → Int} {b : Bool} (h : (hmeanS b x).2 = false) {i : Nat} (hi : i < 6) : (hmeanS b x).1 i = (fmeanS false x i).1 := by
  rw [hmean_is] at h ⊢
  have := (mean_fills x b).val h i hi 0 (by omega)
  rw [show 0 + i * 1 + 0 = i by omega] at this
  exact this

/-! ### Differences -/
theorem less_fills (p q : Nat → Int) (b : Bool) : Fills (hlessS_l0 q (p, b)) (fun i => (subS false (p i) (q i)).2 = false) (fun i _ => (subS false (p i) (q i)).1) 0 1 1 6 := by
  refine fills (n := 6) (by omega) (fun i hi s hs ho => ?_) 6 (by omega)
  have h0 := ho 0 (by omega)
  rw [show 0 + i * 1 + 0 = i by omega] at h0
  rw [hlessS_l0_succ, ← hs]
  unfold hlessS_l0s
  dsimp only
  rw [show s.1 i = p i from h0]
  have hX : (subS true (p i) (q i)).2 = true := by rw [subS_true]
  refine ⟨one_step (X := fun b => subS b (p i) (q i)) hX s.2, fun h c hc => ?_, fun e he => updF_off _ _ (by omega)⟩
  obtain rfl : c = 0 := by omega
  rw [show 0 + i * 1 + 0 = i by omega, updF_at]
  exact one_val (X := fun b => subS b (p i) (q i)) hX h
theorem hless_is (b : Bool) (p q : Nat → Int) : hlessS b p q = hlessS_l0 q (p, b) 6 := by
  unfold hlessS
  exact eta2 _
theorem less_good (p q : Nat → Int) (b : Bool) : (hlessS b p q).2 = false ↔ b = false ∧ ∀ i, i < 6 → (subS false (p i) (q i)).2 = false := by
  rw [hless_is]
  exact (less_fills p q b).good
theorem less_val {p q : Nat → Int} {b : Bool} (h : (hlessS b p q).2 = false) {i : Nat} (hi : i < 6) : (hlessS b p q).1 i = (subS false (p i) (q i)).1 := by
  rw [hless_is] at h ⊢
  have := (less_fills p q b).val h i hi 0 (by omega)
  rw [show 0 + i * 1 + 0 = i by omega] at this
  exact this
/-- Six cells, one behind the other. -/
def put6 (g : Nat → Int) (o : Nat) (v : Nat → Int) : Nat → Int := updF (updF (updF (updF (updF (updF g o (v 0)) (o + 1) (v 1)) (o + 2) (v 2)) (o + 3) (v 3)) (o + 4) (v 4)) (o + 5) (v 5)
theorem put6_at (g : Nat → Int) (o : Nat) (v : Nat → Int) {j : Nat} (hj : j < 6) : put6 g o v (o + j) = v j := by
  unfold put6 updF
  have : j = 0 ∨ j = 1 ∨ j = 2 ∨ j = 3 ∨ j = 4 ∨ j = 5 := by omega
  rcases this with rfl | rfl | rfl | rfl | rfl | rfl <;> simp
theorem put6_off (g : Nat → Int) (o : Nat) (v : Nat → Int) {i : Nat} (hi : i < o ∨ o + 6 ≤ i) : put6 g o v i = g i := by
  unfold put6 updF
  rw [if_neg (by omega), if_neg (by omega), if_neg (by omega), if_neg (by omega), if_neg (by omega), if_neg (by omega)]
theorem beside_fills (x m : Nat → Int) (b : Bool) : Fills (hbesideS_l0 m (x, b)) (fun k => ∀ i, i < 6 → (subS false (x (k * 6 + i)) (m i)).2 = false) (fun k i => (subS false (x (k * 6 + i)) (m i)).1) 0 6 6 13 := by
  refine fills (n := 13) (by omega) (fun k hk s hs ho => ?_) 13 (by omega)
  rw [hbesideS_l0_succ, ← hs]
  have e : ∀ i, i < 6 → s.1 (k * 6 + i) = x (k * 6 + i) := fun i hi => by
    have := ho i hi
    rw [show 0 + k * 6 + i = k * 6 + i by omega] at this
    exact this
  show ((hlessS s.2 (fun x_ => s.1 (k * 6 + x_)) m).2 = false ↔ _) ∧ ((hlessS s.2 (fun x_ => s.1 (k * 6 + x_)) m).2 = false → ∀ j, j < 6 → put6 s.1 (k * 6) (hlessS s.2 (fun x_ => s.1 (k * 6 + x_)) m).1 (0 + k * 6 + j) = _) ∧ ∀ i, _ → put6 s.1 (k * 6) (hlessS s.2 (fun x_ => s.1 (k * 6 + x_)) m).1 i = s.1 i
  refine ⟨?_, fun h j hj => ?_, fun i hi => put6_off _ _ _ (by omega)⟩
  · rw [less_good]
    constructor
    · rintro ⟨h, g⟩
      exact ⟨h, fun i hi => by rw [← e i hi]; exact g i hi⟩
    · rintro ⟨h, g⟩
      exact ⟨h, fun i hi => by rw [e i hi]; exact g i hi⟩
  · rw [show 0 + k * 6 + j = k * 6 + j by omega, put6_at _ _ _ hj, less_val h hj, e j hj]
theorem hbeside_is (b : Bool) (x m : Nat → Int) : hbesideS b x m = hbesideS_l0 m (x, b) 13 := by
  unfold hbesideS
  exact eta2 _
theorem beside_good (x m : Nat → Int) (b : Bool) : (hbesideS b x m).2 = false ↔ b = false ∧ ∀ k, k < 13 → ∀ i, i < 6 → (subS false (x (k * 6 + i)) (m i)).2 = false := by
  rw [hbeside_is]
  exact (beside_fills x m b).good
theorem beside_val {x m : Nat → Int} {b : Bool} (h : (hbesideS b x m).2 = false) {k i : Nat} (hk : k < 13) (hi : i < 6) : (hbesideS b x m).1 (k * 6 + i) = (subS false (x (k * 6 + i)) (m i)).1 := by
  rw [hbeside_is] at h ⊢
  have := (beside_fills x m b).val h k hk i hi
  rw [show 0 + k * 6 + i = k * 6 + i by omega] at this
  exact this
end Go.Proofs.YtoadcnhcfodkgaaGreatDoor
