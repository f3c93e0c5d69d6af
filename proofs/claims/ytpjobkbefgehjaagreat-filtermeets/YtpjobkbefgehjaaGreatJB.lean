/- A part. -/
import Derived.Test.YtpjobkbefgehjaaGreatJS
import Derived.Test.YtpjobkbefgehjaaGreatJA
namespace Go.Proofs.YtpjobkbefgehjaaGreat
open Go.RowKit
theorem mul_swap (bad : Bool) (a b : Int) : mulS bad a b = mulS bad b a := by
 cases h : tk bad [a, b]
 ·rw [mulS_no h, mulS_no (by rw [← h]; cases bad <;> simp [tk, Bool.and_comm])]
 ·rw [mulS_yes h, mulS_yes (by rw [← h]; cases bad <;> simp [tk, Bool.and_comm]), Int.mul_comm (sz a)]
  cases decide (a < 0) <;> cases decide (b < 0) <;> rfl
theorem pt_true (a p q : Int) : partS true a p q = (0, true) := partS_no (tk_true _)
theorem qMul_true (p q : V4) : (qMulS true p q).2 = true := by
 unfold qMulS
 simp [vScale_true, vAdd_true, vCross_true, mulS_true, vDot_true, subS_true, sound4S_yes]
theorem qTurn_true (q : V4) (v : V3) : (qTurnS true q v).2 = true := by
 unfold qTurnS
 simp [vScale_true, vAdd_true, vCross_true, vSub_true]
theorem qFrom_true (p : V3) : (qFromRodS true p).2 = true := by
 unfold qFromRodS
 simp [vDot_true, addS_true, mulS_true, divS_true, subS_true, qUnit_true]
theorem ahead {α : Type} {b : Bool} {X : Bool → α × Bool} (hX : (X true).2 = true) (h : (X b).2 = false) : b = false ∧ (X false).2 = false := by
 cases b
 ·exact ⟨rfl, h⟩
 ·rw [hX] at h; cases h
theorem add_a {b : Bool} {x y : Int} (h : (addS b x y).2 = false) : b = false ∧ (addS false x y).2 = false := ahead (X := fun b => addS b x y) (by rw [addS_true]) h
theorem sub_a {b : Bool} {x y : Int} (h : (subS b x y).2 = false) : b = false ∧ (subS false x y).2 = false := ahead (X := fun b => subS b x y) (by rw [subS_true]) h
theorem mul_a {b : Bool} {x y : Int} (h : (mulS b x y).2 = false) : b = false ∧ (mulS false x y).2 = false := ahead (X := fun b => mulS b x y) (by rw [mulS_true]) h
theorem vUnit_a {b : Bool} {x : V3} (h : (vUnitS b x).2 = false) : b = false ∧ (vUnitS false x).2 = false := ahead (X := fun b => vUnitS b x) (by rw [vUnit_true]) h
theorem root_a {b : Bool} {m : Nat → Int} (h : (zRoot6 b m).2 = false) : b = false ∧ (zRoot6 false m).2 = false := ahead (X := fun b => zRoot6 b m) rfl h
theorem solve_a {b : Bool} {l p : Nat → Int} (h : (zSolve6 b l p).2 = false) : b = false ∧ (zSolve6 false l p).2 = false := ahead (X := fun b => zSolve6 b l p) rfl h
theorem apply_a {b : Bool} {m p : Nat → Int} (h : (zApply6 b m p).2 = false) : b = false ∧ (zApply6 false m p).2 = false := ahead (X := fun b => zApply6 b m p) rfl h
theorem eta2 {α β : Type} (t : α × β) : (t.1, t.2) = t := rfl
theorem updF_at (g : Nat → Int) (o : Nat) (v : Int) : updF g o v o = v := by unfold updF; rw [if_pos rfl]
theorem updF_off (g : Nat → Int) {o i : Nat} (v : Int) (h : i ≠ o) : updF g o v i = g i := by unfold updF; rw [if_neg h]
structure Fills (L : Nat → (Nat → Int) × Bool) (G : Nat → Prop) (v : Nat → Nat → Int) (o T W m : Nat) : Prop where
 good : (L m).2 = false ↔ (L 0).2 = false ∧ ∀ k, k < m → G k
 val : (L m).2 = false → ∀ k, k < m → ∀ j, j < W → (L m).1 (o + k * T + j) = v k j
 rest : ∀ i, (∀ k, k < m → i < o + k * T ∨ o + k * T + W ≤ i) → (L m).1 i = (L 0).1 i
theorem fills {L : Nat → (Nat → Int) × Bool} {G : Nat → Prop} {v : Nat → Nat → Int} {o T W n : Nat} (hT : W ≤ T)
  (hs : ∀ k, k < n → ∀ s : (Nat → Int) × Bool, s = L k → (∀ j, j < W → s.1 (o + k * T + j) = (L 0).1 (o + k * T + j)) →
   ((L (k + 1)).2 = false ↔ s.2 = false ∧ G k) ∧ ((L (k + 1)).2 = false → ∀ j, j < W → (L (k + 1)).1 (o + k * T + j) = v k j) ∧ ∀ i, (i < o + k * T ∨ o + k * T + W ≤ i) → (L (k + 1)).1 i = s.1 i) :
  ∀ m, m ≤ n → Fills L G v o T W m
 | 0, _ => ⟨⟨fun h => ⟨h, fun k hk => absurd hk (Nat.not_lt_zero k)⟩, fun h => h.1⟩, fun _ k hk => absurd hk (Nat.not_lt_zero k), fun _ _ => rfl⟩
 | m + 1, hm => by
  have ih := fills hT hs m (by omega)
  have far : ∀ k, k < m → o + k * T + W ≤ o + m * T := fun k hk => by
   have : (k + 1) * T ≤ m * T := Nat.mul_le_mul_right T hk
   rw [Nat.succ_mul] at this
   omega
  obtain ⟨s1, s2, s3⟩ := hs m (by omega) (L m) rfl (fun j hj => ih.rest _ (fun k hk => Or.inr (by have := far k hk; omega)))
  refine ⟨⟨fun h => ?_, fun h => ?_⟩, fun h k hk j hj => ?_, fun i hi => ?_⟩
  ·obtain ⟨e, g⟩ := s1.1 h
   obtain ⟨z, r⟩ := ih.good.1 e
   exact ⟨z, fun k hk => by
    rcases Nat.lt_succ_iff_lt_or_eq.1 hk with hk | rfl
    ·exact r k hk
    ·exact g⟩
  ·exact s1.2 ⟨ih.good.2 ⟨h.1, fun k hk => h.2 k (by omega)⟩, h.2 m (by omega)⟩
  ·obtain ⟨e, g⟩ := s1.1 h
   rcases Nat.lt_succ_iff_lt_or_eq.1 hk with hk | rfl
   ·rw [s3 _ (Or.inl (by have := far k hk; omega))]
    exact ih.val e k hk j hj
   ·exact s2 h j hj
  ·rw [s3 i (hi m (by omega))]
   exact ih.rest i (fun k hk => hi k (by omega))
theorem one_step {X : Bool → Int × Bool} (hX : (X true).2 = true) (b : Bool) : (X b).2 = false ↔ b = false ∧ (X false).2 = false :=
 ⟨fun h => ahead hX h, fun h => by rw [h.1]; exact h.2⟩
theorem one_val {X : Bool → Int × Bool} (hX : (X true).2 = true) {b : Bool} (h : (X b).2 = false) : (X b).1 = (X false).1 := by rw [(ahead hX h).1]
theorem add_twice (b : Bool) (x : Int) : addS (addS b 0 x).2 (addS b 0 x).1 x = addS b x x := by
 cases b
 ·cases hx : numB x
  ·have e1 : addS false 0 x = (0, true) := by unfold addS tk; simp [hx]
   have e2 : addS false x x = (0, true) := by unfold addS tk; simp [hx]
   rw [e1, e2, addS_true]
  ·have e1 : addS false 0 x = (x, false) := by
    unfold addS tk gv
    have h0 : numB 0 = true := by decide
    simp [hx, h0]
   rw [e1]
 ·rw [addS_true, addS_true, addS_true]
theorem mid_l0 {x col : Nat → Int} {i : Nat} (hc : ∀ k, k < 13 → col k = x (k * 6 + i)) (b : Bool) : ∀ k, k ≤ 12 →
  hmiddleS_l0 col (col 0, b) (k + 1) = fmeanS_l0 x i ((addS (addS b 0 (x i)).2 (addS b 0 (x i)).1 (x i)).1, (addS (addS b 0 (x i)).2 (addS b 0 (x i)).1 (x i)).2) k
 | 0, _ => by
  have h0 : col 0 = x i := by rw [hc 0 (by omega)]; congr 1; omega
  show hmiddleS_l0s col 0 (col 0, b) = _
  unfold hmiddleS_l0s fmeanS_l0
  dsimp only
  rw [h0, add_twice]
 | k + 1, hk => by
  have ih := mid_l0 hc b k (by omega)
  show hmiddleS_l0s col (k + 1) (hmiddleS_l0 col (col 0, b) (k + 1)) = fmeanS_l0s x i k _
  rw [ih]
  unfold hmiddleS_l0s fmeanS_l0s
  dsimp only
  rw [hc (k + 1) (by omega)]
theorem mid_eq {x col : Nat → Int} {i : Nat} (hc : ∀ k, k < 13 → col k = x (k * 6 + i)) (b : Bool) : hmiddleS b col = fmeanS b x i := by
 unfold hmiddleS fmeanS
 dsimp only
 rw [mid_l0 hc b 12 (by omega)]
theorem mean_congr {x y : Nat → Int} {i : Nat} (h : ∀ k, k < 13 → x (k * 6 + i) = y (k * 6 + i)) (b : Bool) : fmeanS b x i = fmeanS b y i := by
 rw [← mid_eq (x := x) (col := fun k => x (k * 6 + i)) (fun _ _ => rfl), ← mid_eq (x := y) (col := fun k => x (k * 6 + i)) h]
theorem mean_true (x : Nat → Int) (i : Nat) : (fmeanS true x i).2 = true := by
 have : ∀ (z : Int × Bool) (hz : z.2 = true) (k : Nat), (fmeanS_l0 x i z k).2 = true := fun z hz k => by
  induction k with
  | zero => exact hz
  | succ k ih => rw [fmeanS_l0_succ]; unfold fmeanS_l0s; dsimp only; rw [ih, addS_true]
 unfold fmeanS
 dsimp only
 rw [addS_true, this _ (by rw [addS_true]), pt_true]
theorem col_is (x : Nat → Int) (i : Nat) : ∀ n k, k < n → hmeanS_l1 x i (fun _ => 0) n k = x (k * 6 + i)
 | n + 1, k, hk => by
  rw [hmeanS_l1_succ]
  unfold hmeanS_l1s
  by_cases e : k = n
  ·subst e; rw [updF_at]
  ·rw [updF_off _ _ e]; exact col_is x i n k (by omega)
theorem mean_fills (x : Nat → Int) (b : Bool) : Fills (hmeanS_l0 x ((fun _ => 0), b)) (fun i => (fmeanS false x i).2 = false) (fun i _ => (fmeanS false x i).1) 0 1 1 6 := by
 refine fills (n := 6) (by omega) (fun k hk s hs _ => ?_) 6 (by omega)
 rw [hmeanS_l0_succ, ← hs]
 unfold hmeanS_l0s
 dsimp only
 rw [mid_eq (x := x) (i := k) (fun c hc => col_is x k 13 c hc)]
 have hX := mean_true x k
 refine ⟨one_step (X := fun b => fmeanS b x k) hX s.2, fun h j hj => ?_, fun i hi => updF_off _ _ (by omega)⟩
 obtain rfl : j = 0 := by omega
 rw [show 0 + k * 1 + 0 = k by omega, updF_at]
 exact one_val (X := fun b => fmeanS b x k) hX h
theorem prod_l2 (x y : Nat → Int) (i j : Nat) (b : Bool) : ∀ n, (hproductsS_l2 x y i j ((fun _ => 0), b) n).2 = (fproductsS_l0 x i y j ((fun _ => 0), b) n).2 ∧
  ∀ k, k < n → (hproductsS_l2 x y i j ((fun _ => 0), b) n).1 k = (fproductsS_l0 x i y j ((fun _ => 0), b) n).1 (k * 6)
 | 0 => ⟨rfl, fun k hk => absurd hk (Nat.not_lt_zero k)⟩
 | n + 1 => by
  obtain ⟨h1, h2⟩ := prod_l2 x y i j b n
  rw [hproductsS_l2_succ, fproductsS_l0_succ]
  unfold hproductsS_l2s fproductsS_l0s
  dsimp only
  rw [h1]
  refine ⟨rfl, fun k hk => ?_⟩
  by_cases e : k = n
  ·subst e; rw [updF_at, updF_at]
  ·rw [updF_off _ _ e, updF_off _ _ (by omega)]; exact h2 k (by omega)
theorem prod_eq (x y : Nat → Int) (i j : Nat) (b : Bool) : hmiddleS (hproductsS_l2 x y i j ((fun _ => 0), b) 13).2 (hproductsS_l2 x y i j ((fun _ => 0), b) 13).1 = fproductsS b x i y j := by
 obtain ⟨h1, h2⟩ := prod_l2 x y i j b 13
 unfold fproductsS
 dsimp only
 rw [h1, mid_eq (x := (fproductsS_l0 x i y j ((fun _ => 0), b) 13).1) (i := 0) (fun k hk => by rw [h2 k hk]; rfl)]
theorem prod_true (x y : Nat → Int) (i j : Nat) : (fproductsS true x i y j).2 = true := by
 have : ∀ k, (fproductsS_l0 x i y j ((fun _ => 0), true) k).2 = true := fun k => by
  induction k with
  | zero => rfl
  | succ k ih => rw [fproductsS_l0_succ]; unfold fproductsS_l0s; dsimp only; rw [ih, mulS_true]
 unfold fproductsS
 dsimp only
 rw [this, mean_true]
theorem prod_a {b : Bool} {x y : Nat → Int} {i j : Nat} (h : (fproductsS b x i y j).2 = false) : b = false ∧ (fproductsS false x i y j).2 = false := ahead (X := fun b => fproductsS b x i y j) (prod_true x y i j) h
theorem prod_congr {x y x' y' : Nat → Int} {i j : Nat} (hx : ∀ k, k < 13 → x (k * 6 + i) = x' (k * 6 + i)) (hy : ∀ k, k < 13 → y (k * 6 + j) = y' (k * 6 + j)) (b : Bool) : fproductsS b x i y j = fproductsS b x' i y' j := by
 have : ∀ n, n ≤ 13 → fproductsS_l0 x i y j ((fun _ => 0), b) n = fproductsS_l0 x' i y' j ((fun _ => 0), b) n := fun n => by
  induction n with
  | zero => intro _; rfl
  | succ n ih =>
   intro hn
   rw [fproductsS_l0_succ, fproductsS_l0_succ, ih (by omega)]
   unfold fproductsS_l0s
   dsimp only
   rw [hx n (by omega), hy n (by omega)]
 unfold fproductsS
 rw [this 13 (by omega)]
theorem prod_row (x y : Nat → Int) (i : Nat) (z : (Nat → Int) × Bool) : Fills (hproductsS_l1 x y i z) (fun j => (fproductsS false x i y j).2 = false) (fun j _ => (fproductsS false x i y j).1) (i * 6) 1 1 6 := by
 refine fills (n := 6) (by omega) (fun j hj s hs _ => ?_) 6 (by omega)
 rw [hproductsS_l1_succ, ← hs]
 unfold hproductsS_l1s
 dsimp only
 rw [prod_eq]
 have hX := prod_true x y i j
 refine ⟨one_step (X := fun b => fproductsS b x i y j) hX s.2, fun h c hc => ?_, fun e he => updF_off _ _ (by omega)⟩
 obtain rfl : c = 0 := by omega
 rw [show i * 6 + j * 1 + 0 = i * 6 + j by omega, updF_at]
 exact one_val (X := fun b => fproductsS b x i y j) hX h
theorem prod_fills (x y : Nat → Int) (b : Bool) : Fills (hproductsS_l0 x y ((fun _ => 0), b)) (fun i => ∀ j, j < 6 → (fproductsS false x i y j).2 = false) (fun i j => (fproductsS false x i y j).1) 0 6 6 6 := by
 refine fills (n := 6) (by omega) (fun i hi s hs _ => ?_) 6 (by omega)
 rw [hproductsS_l0_succ, ← hs]
 unfold hproductsS_l0s
 dsimp only
 have F := prod_row x y i (s.1, s.2)
 refine ⟨F.good, fun h j hj => ?_, fun e he => F.rest e (fun k hk => by omega)⟩
 have := F.val h j hj 0 (by omega)
 rw [show i * 6 + j * 1 + 0 = 0 + i * 6 + j by omega] at this
 exact this
theorem hproducts_is (b : Bool) (x y : Nat → Int) : hproductsS b x y = hproductsS_l0 x y ((fun _ => 0), b) 6 := by
 unfold hproductsS
 exact eta2 _
theorem prod_good (x y : Nat → Int) (b : Bool) : (hproductsS b x y).2 = false ↔ b = false ∧ ∀ i, i < 6 → ∀ j, j < 6 → (fproductsS false x i y j).2 = false := by
 rw [hproducts_is]
 exact (prod_fills x y b).good
theorem prod_val {x y : Nat → Int} {b : Bool} (h : (hproductsS b x y).2 = false) {i j : Nat} (hi : i < 6) (hj : j < 6) : (hproductsS b x y).1 (i * 6 + j) = (fproductsS false x i y j).1 := by
 rw [hproducts_is] at h ⊢
 have := (prod_fills x y b).val h i hi j hj
 rw [show 0 + i * 6 + j = i * 6 + j by omega] at this
 exact this
theorem hmean_is (b : Bool) (x : Nat → Int) : hmeanS b x = hmeanS_l0 x ((fun _ => 0), b) 6 := by
 unfold hmeanS
 exact eta2 _
theorem mean_good (x : Nat → Int) (b : Bool) : (hmeanS b x).2 = false ↔ b = false ∧ ∀ i, i < 6 → (fmeanS false x i).2 = false := by
 rw [hmean_is]
 exact (mean_fills x b).good
theorem mean_val {x : Nat → Int} {b : Bool} (h : (hmeanS b x).2 = false) {i : Nat} (hi : i < 6) : (hmeanS b x).1 i = (fmeanS false x i).1 := by
 rw [hmean_is] at h ⊢
 have := (mean_fills x b).val h i hi 0 (by omega)
 rw [show 0 + i * 1 + 0 = i by omega] at this
 exact this
theorem less_fills (p q : Nat → Int) (b : Bool) : Fills (hlessS_l0 q (p, b)) (fun i => (subS false (p i) (q i)).2 = false) (fun i _ => (subS false (p i) (q i)).1) 0 1 1 6 := by
 refine fills (n := 6) (by omega) (fun i hi s hs ho => ?_) 6 (by omega)
 have h0 := ho 0 (by omega)
 rw [show 0 + i * 1 + 0 = i by omega] at h0
 rw [hlessS_l0_succ, ← hs]
 unfold hlessS_l0s
 dsimp only
 rw [show s.1 i = p i from h0]
 have hX : (subS true (p i) (q i)).2 = true := by rw [subS_true]
 refine ⟨one_step (X := fun b => subS b (p i) (q i)) hX s.2, fun h c hc => ?_, fun e he => updF_off _ _ (by omega)⟩
 obtain rfl : c = 0 := by omega
 rw [show 0 + i * 1 + 0 = i by omega, updF_at]
 exact one_val (X := fun b => subS b (p i) (q i)) hX h
theorem hless_is (b : Bool) (p q : Nat → Int) : hlessS b p q = hlessS_l0 q (p, b) 6 := by
 unfold hlessS
 exact eta2 _
theorem less_good (p q : Nat → Int) (b : Bool) : (hlessS b p q).2 = false ↔ b = false ∧ ∀ i, i < 6 → (subS false (p i) (q i)).2 = false := by
 rw [hless_is]
 exact (less_fills p q b).good
theorem less_val {p q : Nat → Int} {b : Bool} (h : (hlessS b p q).2 = false) {i : Nat} (hi : i < 6) : (hlessS b p q).1 i = (subS false (p i) (q i)).1 := by
 rw [hless_is] at h ⊢
 have := (less_fills p q b).val h i hi 0 (by omega)
 rw [show 0 + i * 1 + 0 = i by omega] at this
 exact this
def put6 (g : Nat → Int) (o : Nat) (v : Nat → Int) : Nat → Int := updF (updF (updF (updF (updF (updF g o (v 0)) (o + 1) (v 1)) (o + 2) (v 2)) (o + 3) (v 3)) (o + 4) (v 4)) (o + 5) (v 5)
theorem put6_at (g : Nat → Int) (o : Nat) (v : Nat → Int) {j : Nat} (hj : j < 6) : put6 g o v (o + j) = v j := by
 unfold put6 updF
 have : j = 0 ∨ j = 1 ∨ j = 2 ∨ j = 3 ∨ j = 4 ∨ j = 5 := by omega
 rcases this with rfl | rfl | rfl | rfl | rfl | rfl <;> simp
theorem put6_off (g : Nat → Int) (o : Nat) (v : Nat → Int) {i : Nat} (hi : i < o ∨ o + 6 ≤ i) : put6 g o v i = g i := by
 unfold put6 updF
 rw [if_neg (by omega), if_neg (by omega), if_neg (by omega), if_neg (by omega), if_neg (by omega), if_neg (by omega)]
theorem beside_fills (x m : Nat → Int) (b : Bool) : Fills (hbesideS_l0 m (x, b)) (fun k => ∀ i, i < 6 → (subS false (x (k * 6 + i)) (m i)).2 = false) (fun k i => (subS false (x (k * 6 + i)) (m i)).1) 0 6 6 13 := by
 refine fills (n := 13) (by omega) (fun k hk s hs ho => ?_) 13 (by omega)
 rw [hbesideS_l0_succ, ← hs]
 have e : ∀ i, i < 6 → s.1 (k * 6 + i) = x (k * 6 + i) := fun i hi => by
  have := ho i hi
  rw [show 0 + k * 6 + i = k * 6 + i by omega] at this
  exact this
 show ((hlessS s.2 (fun x_ => s.1 (k * 6 + x_)) m).2 = false ↔ _) ∧ ((hlessS s.2 (fun x_ => s.1 (k * 6 + x_)) m).2 = false → ∀ j, j < 6 → put6 s.1 (k * 6) (hlessS s.2 (fun x_ => s.1 (k * 6 + x_)) m).1 (0 + k * 6 + j) = _) ∧ ∀ i, _ → put6 s.1 (k * 6) (hlessS s.2 (fun x_ => s.1 (k * 6 + x_)) m).1 i = s.1 i
 refine ⟨?_, fun h j hj => ?_, fun i hi => put6_off _ _ _ (by omega)⟩
 ·rw [less_good]
  constructor
  ·rintro ⟨h, g⟩
   exact ⟨h, fun i hi => by rw [← e i hi]; exact g i hi⟩
  ·rintro ⟨h, g⟩
   exact ⟨h, fun i hi => by rw [e i hi]; exact g i hi⟩
 ·rw [show 0 + k * 6 + j = k * 6 + j by omega, put6_at _ _ _ hj, less_val h hj, e j hj]
theorem hbeside_is (b : Bool) (x m : Nat → Int) : hbesideS b x m = hbesideS_l0 m (x, b) 13 := by
 unfold hbesideS
 exact eta2 _
theorem beside_good (x m : Nat → Int) (b : Bool) : (hbesideS b x m).2 = false ↔ b = false ∧ ∀ k, k < 13 → ∀ i, i < 6 → (subS false (x (k * 6 + i)) (m i)).2 = false := by
 rw [hbeside_is]
 exact (beside_fills x m b).good
theorem beside_val {x m : Nat → Int} {b : Bool} (h : (hbesideS b x m).2 = false) {k i : Nat} (hk : k < 13) (hi : i < 6) : (hbesideS b x m).1 (k * 6 + i) = (subS false (x (k * 6 + i)) (m i)).1 := by
 rw [hbeside_is] at h ⊢
 have := (beside_fills x m b).val h k hk i hi
 rw [show 0 + k * 6 + i = k * 6 + i by omega] at this
 exact this
end Go.Proofs.YtpjobkbefgehjaaGreat
namespace Go.Proofs.YtpjobkbefgehjaaGreat
open Go.RowKit
def c4 (q : V4) : Nat → Int := fun j => if j = 0 then q.1 else if j = 1 then q.2.1 else if j = 2 then q.2.2.1 else q.2.2.2
def c3 (q : V3) : Nat → Int := fun j => if j = 0 then q.1 else if j = 1 then q.2.1 else q.2.2
def q4 (y : Nat → Int) (o : Nat) : V4 := (y o, y (o + 1), y (o + 2), y (o + 3))
theorem q4_c4 {y : Nat → Int} {o : Nat} {q : V4} (h : ∀ j, j < 4 → y (o + j) = c4 q j) : q4 y o = q := by
 unfold q4
 rw [show y o = c4 q 0 from h 0 (by omega), h 1 (by omega), h 2 (by omega), h 3 (by omega)]
 rfl
def put4 (g : Nat → Int) (o : Nat) (q : V4) : Nat → Int := updF (updF (updF (updF g o q.1) (o + 1) q.2.1) (o + 2) q.2.2.1) (o + 3) q.2.2.2
theorem put4_at (g : Nat → Int) (o : Nat) (q : V4) {j : Nat} (hj : j < 4) : put4 g o q (o + j) = c4 q j := by
 unfold put4 updF c4
 have : j = 0 ∨ j = 1 ∨ j = 2 ∨ j = 3 := by omega
 rcases this with rfl | rfl | rfl | rfl <;> simp
theorem put4_off (g : Nat → Int) (o : Nat) (q : V4) {i : Nat} (hi : i < o ∨ o + 4 ≤ i) : put4 g o q i = g i := by
 unfold put4 updF
 rw [if_neg (by omega), if_neg (by omega), if_neg (by omega), if_neg (by omega)]
def rowK (x : Nat → Int) (k : Nat) : Nat → Int := fun x_ => x (k * 6 + x_)
theorem att_true (g r : Nat → Int) : (fattitudeS true g r).2 = true := by
 unfold fattitudeS
 dsimp only
 rw [qFrom_true, qMul_true]
theorem att_a {b : Bool} {g r : Nat → Int} (h : (fattitudeS b g r).2 = false) : b = false ∧ (fattitudeS false g r).2 = false := ahead (X := fun b => fattitudeS b g r) (att_true g r) h
theorem att_fills (g x : Nat → Int) (b : Bool) : Fills (hattitudesS_l0 g x ((fun _ => 0), b)) (fun k => (fattitudeS false g (rowK x k)).2 = false) (fun k => c4 (fattitudeS false g (rowK x k)).1) 0 4 4 13 := by
 refine fills (n := 13) (by omega) (fun k hk s hs _ => ?_) 13 (by omega)
 rw [hattitudesS_l0_succ, ← hs]
 have e : hattitudesS_l0s g x k s = (put4 s.1 (k * 4) (fattitudeS s.2 g (rowK x k)).1, (fattitudeS s.2 g (rowK x k)).2) := by
  simp only [hattitudesS_l0s, fattitudeS, put4, hpartedP, ffirstP, rowK]
 rw [e]
 dsimp only
 refine ⟨⟨fun h => att_a h, fun h => by rw [h.1]; exact h.2⟩, fun h j hj => ?_, fun i hi => put4_off _ _ _ (by omega)⟩
 rw [show 0 + k * 4 + j = k * 4 + j by omega, put4_at _ _ _ hj, (att_a h).1]
theorem hatt_is (b : Bool) (g x : Nat → Int) : hattitudesS b g x = hattitudesS_l0 g x ((fun _ => 0), b) 13 := by
 unfold hattitudesS
 exact eta2 _
theorem att_good (g x : Nat → Int) (b : Bool) : (hattitudesS b g x).2 = false ↔ b = false ∧ ∀ k, k < 13 → (fattitudeS false g (rowK x k)).2 = false := by
 rw [hatt_is]
 exact (att_fills g x b).good
theorem att_val {g x : Nat → Int} {b : Bool} (h : (hattitudesS b g x).2 = false) {k : Nat} (hk : k < 13) : q4 (hattitudesS b g x).1 (k * 4) = (fattitudeS false g (rowK x k)).1 := by
 rw [hatt_is] at h ⊢
 refine q4_c4 (fun j hj => ?_)
 have := (att_fills g x b).val h k hk j hj
 rw [show 0 + k * 4 + j = k * 4 + j by omega] at this
 exact this
def wS (b : Bool) (a : V4) (s t : V3) : (V3 × V3) × Bool := let p2 := qTurnS b a s; let p3 := qTurnS p2.2 a t; ((p2.1, p3.1), p3.2)
theorem w_true (a : V4) (s t : V3) : (wS true a s t).2 = true := by
 unfold wS
 dsimp only
 rw [qTurn_true, qTurn_true]
theorem w_a {b : Bool} {a : V4} {s t : V3} (h : (wS b a s t).2 = false) : b = false ∧ (wS false a s t).2 = false := ahead (X := fun b => wS b a s t) (w_true a s t) h
def c33 (p : V3 × V3) : Nat → Int := fun j => if j < 3 then c3 p.1 j else c3 p.2 (j - 3)
def sA (y : Nat → Int) : V3 := (y 0, y 1, y 2)
def sB (y : Nat → Int) : V3 := (y 3, y 4, y 5)
theorem view_fills (sky : Nat → Int) (r1 : (Nat → Int) × Bool) (b : Bool) : Fills (hviewedS_l0 sky r1 ((fun _ => 0), b)) (fun k => (wS false (q4 r1.1 (k * 4)) (sA sky) (sB sky)).2 = false) (fun k => c33 (wS false (q4 r1.1 (k * 4)) (sA sky) (sB sky)).1) 0 6 6 13 := by
 refine fills (n := 13) (by omega) (fun k hk s hs _ => ?_) 13 (by omega)
 rw [hviewedS_l0_succ, ← hs]
 have e : hviewedS_l0s sky r1 k s = (put6 s.1 (k * 6) (c33 (wS s.2 (q4 r1.1 (k * 4)) (sA sky) (sB sky)).1), (wS s.2 (q4 r1.1 (k * 4)) (sA sky) (sB sky)).2) := by
  simp only [hviewedS_l0s, wS, put6, hjoinedP, q4, c33, c3, sA, sB]
  rfl
 rw [e]
 dsimp only
 refine ⟨⟨fun h => w_a h, fun h => by rw [h.1]; exact h.2⟩, fun h j hj => ?_, fun i hi => put6_off _ _ _ (by omega)⟩
 rw [show 0 + k * 6 + j = k * 6 + j by omega, put6_at _ _ _ hj, (w_a h).1]
theorem view_zero (sky : Nat → Int) (r1 z : (Nat → Int) × Bool) : hviewedS_l0 sky r1 z 0 = z := rfl
theorem hview_is (b : Bool) (g x sky : Nat → Int) : hviewedS b g x sky = hviewedS_l0 sky (hattitudesS b g x) ((fun _ => 0), (hattitudesS b g x).2) 13 := by
 unfold hviewedS
 exact eta2 _
structure ViewG (g x : Nat → Int) (s t : V3) (k : Nat) : Prop where
 a : (fattitudeS false g (rowK x k)).2 = false
 w : (wS false (fattitudeS false g (rowK x k)).1 s t).2 = false
theorem view_good (g x sky : Nat → Int) (b : Bool) : (hviewedS b g x sky).2 = false ↔ b = false ∧ ∀ k, k < 13 → ViewG g x (sA sky) (sB sky) k := by
 rw [hview_is]
 constructor
 ·intro h
  obtain ⟨h1, h2⟩ := (view_fills sky _ _).good.1 h
  rw [view_zero] at h1
  have ea := h1
  dsimp only at ea
  obtain ⟨eb, h4⟩ := (att_good g x b).1 ea
  refine ⟨eb, fun k hk => ⟨h4 k hk, ?_⟩⟩
  have h5 := h2 k hk
  rw [att_val ea hk] at h5
  exact h5
 ·rintro ⟨eb, h4⟩
  have ea := (att_good g x b).2 ⟨eb, fun k hk => (h4 k hk).a⟩
  refine (view_fills sky _ _).good.2 ⟨by rw [view_zero]; dsimp only; exact ea, fun k hk => ?_⟩
  rw [att_val ea hk]
  exact (h4 k hk).w
theorem view_val {g x sky : Nat → Int} {b : Bool} (h : (hviewedS b g x sky).2 = false) {k j : Nat} (hk : k < 13) (hj : j < 6) : (hviewedS b g x sky).1 (k * 6 + j) = c33 (wS false (fattitudeS false g (rowK x k)).1 (sA sky) (sB sky)).1 j := by
 rw [hview_is] at h ⊢
 have ea := ((view_fills sky _ _).good.1 h).1
 rw [view_zero] at ea
 dsimp only at ea
 have := (view_fills sky _ _).val h k hk j hj
 rw [show 0 + k * 6 + j = k * 6 + j by omega] at this
 rw [this, att_val ea hk]
theorem raised_fills (m : Nat → Int) (p q : Int) (b : Bool) : Fills (hraisedS_l0 p q (m, b)) (fun i => (addS false (m (i * 7)) (heitherP i p q)).2 = false) (fun i _ => (addS false (m (i * 7)) (heitherP i p q)).1) 0 7 1 6 := by
 refine fills (n := 6) (by omega) (fun i hi s hs ho => ?_) 6 (by omega)
 have h0 := ho 0 (by omega)
 rw [show 0 + i * 7 + 0 = i * 6 + i by omega] at h0
 rw [hraisedS_l0_succ, ← hs]
 unfold hraisedS_l0s
 dsimp only
 rw [show s.1 (i * 6 + i) = m (i * 6 + i) from h0, show i * 6 + i = i * 7 by omega]
 have hX : (addS true (m (i * 7)) (heitherP i p q)).2 = true := by rw [addS_true]
 refine ⟨one_step (X := fun b => addS b (m (i * 7)) (heitherP i p q)) hX s.2, fun h c hc => ?_, fun e he => updF_off _ _ (by omega)⟩
 obtain rfl : c = 0 := by omega
 rw [show 0 + i * 7 + 0 = i * 7 by omega, updF_at]
 exact one_val (X := fun b => addS b (m (i * 7)) (heitherP i p q)) hX h
theorem hraised_is (b : Bool) (m : Nat → Int) (p q : Int) : hraisedS b m p q = hraisedS_l0 p q (m, b) 6 := by
 unfold hraisedS
 exact eta2 _
theorem raised_good (m : Nat → Int) (p q : Int) (b : Bool) : (hraisedS b m p q).2 = false ↔ b = false ∧ ∀ i, i < 6 → (addS false (m (i * 7)) (heitherP i p q)).2 = false := by
 rw [hraised_is]
 exact (raised_fills m p q b).good
theorem raised_val {m : Nat → Int} {p q : Int} {b : Bool} (h : (hraisedS b m p q).2 = false) {i : Nat} (hi : i < 6) : (hraisedS b m p q).1 (i * 7) = (addS false (m (i * 7)) (heitherP i p q)).1 := by
 rw [hraised_is] at h ⊢
 have := (raised_fills m p q b).val h i hi 0 (by omega)
 rw [show 0 + i * 7 + 0 = i * 7 by omega] at this
 exact this
theorem raised_off (m : Nat → Int) (p q : Int) (b : Bool) {e : Nat} (he : ∀ i, i < 6 → e ≠ i * 7) : (hraisedS b m p q).1 e = m e := by
 rw [hraised_is]
 exact (raised_fills m p q b).rest e (fun k hk => by have := he k hk; omega)
def halfS (b : Bool) (x y : Int) : Int × Bool := let p1 := addS b x y; let p2 := partS p1.2 p1.1 1 2; (p2.1, p2.2)
theorem half_true (x y : Int) : (halfS true x y).2 = true := by
 unfold halfS
 dsimp only
 rw [addS_true, pt_true]
theorem even_row (m : Nat → Int) (i : Nat) (z : (Nat → Int) × Bool) : Fills (hevenedS_l1 m i z) (fun j => (halfS false (m (i * 6 + j)) (m (j * 6 + i))).2 = false) (fun j _ => (halfS false (m (i * 6 + j)) (m (j * 6 + i))).1) (i * 6) 1 1 6 := by
 refine fills (n := 6) (by omega) (fun j hj s hs _ => ?_) 6 (by omega)
 rw [hevenedS_l1_succ, ← hs]
 have e : hevenedS_l1s m i j s = (updF s.1 (i * 6 + j) (halfS s.2 (m (i * 6 + j)) (m (j * 6 + i))).1, (halfS s.2 (m (i * 6 + j)) (m (j * 6 + i))).2) := rfl
 rw [e]
 dsimp only
 have hX := half_true (m (i * 6 + j)) (m (j * 6 + i))
 refine ⟨one_step (X := fun b => halfS b (m (i * 6 + j)) (m (j * 6 + i))) hX s.2, fun h c hc => ?_, fun e he => updF_off _ _ (by omega)⟩
 obtain rfl : c = 0 := by omega
 rw [show i * 6 + j * 1 + 0 = i * 6 + j by omega, updF_at]
 exact one_val (X := fun b => halfS b (m (i * 6 + j)) (m (j * 6 + i))) hX h
theorem even_fills (m : Nat → Int) (b : Bool) : Fills (hevenedS_l0 m ((fun _ => 0), b)) (fun i => ∀ j, j < 6 → (halfS false (m (i * 6 + j)) (m (j * 6 + i))).2 = false) (fun i j => (halfS false (m (i * 6 + j)) (m (j * 6 + i))).1) 0 6 6 6 := by
 refine fills (n := 6) (by omega) (fun i hi s hs _ => ?_) 6 (by omega)
 rw [hevenedS_l0_succ, ← hs]
 unfold hevenedS_l0s
 dsimp only
 have F := even_row m i (s.1, s.2)
 refine ⟨F.good, fun h j hj => ?_, fun e he => F.rest e (fun k hk => by omega)⟩
 have := F.val h j hj 0 (by omega)
 rw [show i * 6 + j * 1 + 0 = 0 + i * 6 + j by omega] at this
 exact this
theorem hevened_is (b : Bool) (m : Nat → Int) : hevenedS b m = hevenedS_l0 m ((fun _ => 0), b) 6 := by
 unfold hevenedS
 exact eta2 _
theorem even_good (m : Nat → Int) (b : Bool) : (hevenedS b m).2 = false ↔ b = false ∧ ∀ i, i < 6 → ∀ j, j < 6 → (halfS false (m (i * 6 + j)) (m (j * 6 + i))).2 = false := by
 rw [hevened_is]
 exact (even_fills m b).good
theorem even_val {m : Nat → Int} {b : Bool} (h : (hevenedS b m).2 = false) {i j : Nat} (hi : i < 6) (hj : j < 6) : (hevenedS b m).1 (i * 6 + j) = (halfS false (m (i * 6 + j)) (m (j * 6 + i))).1 := by
 rw [hevened_is] at h ⊢
 have := (even_fills m b).val h i hi j hj
 rw [show 0 + i * 6 + j = i * 6 + j by omega] at this
 exact this
theorem turned_true (q : V4) (r : Nat → Int) : (hturnedS true q r).2 = true := by
 unfold hturnedS
 dsimp only
 rw [qFrom_true, qMul_true, qUnit_true]
theorem turned_a {b : Bool} {q : V4} {r : Nat → Int} (h : (hturnedS b q r).2 = false) : b = false ∧ (hturnedS false q r).2 = false := ahead (X := fun b => hturnedS b q r) (turned_true q r) h
theorem biased_true (v : V3) (r : Nat → Int) : (hbiasedS true v r).2 = true := by
 unfold hbiasedS
 dsimp only
 rw [vAdd_true]
theorem biased_a {b : Bool} {v : V3} {r : Nat → Int} (h : (hbiasedS b v r).2 = false) : b = false ∧ (hbiasedS false v r).2 = false := ahead (X := fun b => hbiasedS b v r) (biased_true v r) h
end Go.Proofs.YtpjobkbefgehjaaGreat
namespace Go.Proofs.YtpjobkbefgehjaaGreat
open Go.RowKit
theorem pts_l1 (r1 : (Nat → Int) × Bool) (r3 : Int × Bool) (k : Nat) (z : (Nat → Int) × Bool) : ∀ i, fPointsS_l1 r1 r3 k z i = hPointsS_l1 r1 r3 k z i
 | 0 => rfl
 | i + 1 => by rw [fPointsS_l1_succ, hPointsS_l1_succ, pts_l1 r1 r3 k z i]; rfl
theorem pts_l0 (r1 : (Nat → Int) × Bool) (r3 : Int × Bool) (z : (Nat → Int) × Bool) : ∀ k, fPointsS_l0 r1 r3 z k = hPointsS_l0 r1 r3 z k
 | 0 => rfl
 | k + 1 => by
  rw [fPointsS_l0_succ, hPointsS_l0_succ, pts_l0 r1 r3 z k]
  unfold fPointsS_l0s hPointsS_l0s
  rw [pts_l1]
theorem hPoints_is (b : Bool) (g : Nat → Int) : hPointsS b g = hPointsS_l0 (zRoot6 b (fun x_ => g (7 + x_))) (sqrtS (zRoot6 b (fun x_ => g (7 + x_))).2 7696581394432) ((fun _ => 0), (sqrtS (zRoot6 b (fun x_ => g (7 + x_))).2 7696581394432).2) 6 := by
 unfold hPointsS
 exact eta2 _
theorem fPoints_is (b : Bool) (g : Nat → Int) : fPointsS b g = if (hPointsS b g).2 then ((fun _ => 0), (hPointsS b g).2) else ((hPointsS b g).1, (hPointsS b g).2) := by
 rw [hPoints_is]
 unfold fPointsS
 dsimp only
 rw [pts_l0]
theorem fPoints_flag (b : Bool) (g : Nat → Int) : (fPointsS b g).2 = (hPointsS b g).2 := by
 rw [fPoints_is]
 cases (hPointsS b g).2 <;> rfl
theorem fPoints_good {b : Bool} {g : Nat → Int} (h : (hPointsS b g).2 = false) : fPointsS b g = hPointsS b g := by
 rw [fPoints_is, h, if_neg (by decide), ← h]
theorem pts_l1_bad (r1 : (Nat → Int) × Bool) (r3 : Int × Bool) (k : Nat) {z : (Nat → Int) × Bool} (h : z.2 = true) : ∀ i, (hPointsS_l1 r1 r3 k z i).2 = true
 | 0 => h
 | i + 1 => by
  rw [hPointsS_l1_succ]
  unfold hPointsS_l1s
  dsimp only
  rw [pts_l1_bad r1 r3 k h i, mulS_true]
theorem pts_l0_bad (r1 : (Nat → Int) × Bool) (r3 : Int × Bool) {z : (Nat → Int) × Bool} (h : z.2 = true) : ∀ k, (hPointsS_l0 r1 r3 z k).2 = true
 | 0 => h
 | k + 1 => by
  rw [hPointsS_l0_succ]
  unfold hPointsS_l0s
  exact pts_l1_bad r1 r3 k (z := ((hPointsS_l0 r1 r3 z k).1, (hPointsS_l0 r1 r3 z k).2)) (pts_l0_bad r1 r3 h k) 6
theorem sq_true (a : Int) : sqrtS true a = (0, true) := sqrtS_no (tk_true _)
theorem pts_true (g : Nat → Int) : (hPointsS true g).2 = true := by
 rw [hPoints_is]
 have e : (zRoot6 true (fun x_ => g (7 + x_))).2 = true := rfl
 rw [e, sq_true]
 exact pts_l0_bad _ _ rfl 6
theorem pts_a {b : Bool} {g : Nat → Int} (h : (hPointsS b g).2 = false) : b = false ∧ (hPointsS false g).2 = false := ahead (X := fun b => hPointsS b g) (pts_true g) h
theorem less_row_ref (m : Nat → Int) (k : Nat) (z : (Nat → Int) × Bool) : Fills (flessS_l1 m k z) (fun i => (subS false (z.1 (k * 6 + i)) (m i)).2 = false) (fun i _ => (subS false (z.1 (k * 6 + i)) (m i)).1) (k * 6) 1 1 6 := by
 refine fills (n := 6) (by omega) (fun i hi s hs ho => ?_) 6 (by omega)
 have h0 := ho 0 (by omega)
 rw [show k * 6 + i * 1 + 0 = k * 6 + i by omega] at h0
 rw [flessS_l1_succ, ← hs]
 unfold flessS_l1s
 dsimp only
 rw [show s.1 (k * 6 + i) = z.1 (k * 6 + i) from h0]
 have hX : (subS true (z.1 (k * 6 + i)) (m i)).2 = true := by rw [subS_true]
 refine ⟨one_step (X := fun b => subS b (z.1 (k * 6 + i)) (m i)) hX s.2, fun h c hc => ?_, fun e he => updF_off _ _ (by omega)⟩
 obtain rfl : c = 0 := by omega
 rw [show k * 6 + i * 1 + 0 = k * 6 + i by omega, updF_at]
 exact one_val (X := fun b => subS b (z.1 (k * 6 + i)) (m i)) hX h
theorem less_ref (x m : Nat → Int) (b : Bool) : Fills (flessS_l0 m (x, b)) (fun k => ∀ i, i < 6 → (subS false (x (k * 6 + i)) (m i)).2 = false) (fun k i => (subS false (x (k * 6 + i)) (m i)).1) 0 6 6 13 := by
 refine fills (n := 13) (by omega) (fun k hk s hs ho => ?_) 13 (by omega)
 rw [flessS_l0_succ, ← hs]
 unfold flessS_l0s
 dsimp only
 have e : ∀ i, i < 6 → s.1 (k * 6 + i) = x (k * 6 + i) := fun i hi => by
  have := ho i hi
  rw [show 0 + k * 6 + i = k * 6 + i by omega] at this
  exact this
 have F := less_row_ref m k (s.1, s.2)
 refine ⟨F.good.trans ⟨fun h => ⟨h.1, fun i hi => by rw [← e i hi]; exact h.2 i hi⟩, fun h => ⟨h.1, fun i hi => by dsimp only; rw [e i hi]; exact h.2 i hi⟩⟩, fun h j hj => ?_, fun e he => F.rest e (fun k hk => by omega)⟩
 have := F.val h j hj 0 (by omega)
 rw [show k * 6 + j * 1 + 0 = 0 + k * 6 + j by omega] at this
 rw [this]
 dsimp only
 rw [e j hj]
theorem fless_is (b : Bool) (x m : Nat → Int) : flessS b x m = flessS_l0 m (x, b) 13 := by
 unfold flessS
 exact eta2 _
end Go.Proofs.YtpjobkbefgehjaaGreat
namespace Go.Proofs.YtpjobkbefgehjaaGreat
open Go.RowKit
theorem turned_is (b : Bool) (q : V4) (r : Nat → Int) {r2 r3 : V4 × Bool} (h2 : r2 = qFromRodS b (ffirstP r)) (h3 : r3 = qMulS r2.2 r2.1 q) : qUnitS r3.2 r3.1 = hturnedS b q r := by
 subst h2
 subst h3
 unfold hturnedS
 exact (eta2 _).symm
theorem biased_is (b : Bool) (v : V3) (r : Nat → Int) : vAddS b v (flastP r) = hbiasedS b v r := by
 unfold hbiasedS
 exact (eta2 _).symm
structure Agr (H : Prop) (N : Nat) (s t : (Nat → Int) × Bool) : Prop where
 flag : t.2 = false ↔ s.2 = false ∧ H
 cell : t.2 = false → ∀ i, i < N → s.1 i = t.1 i
theorem mean_stage {H : Prop} {s t : (Nat → Int) × Bool} (A : Agr H 78 s t) {L : Nat → (Nat → Int) × Bool} (hL : (L 0).2 = t.2) (F : Fills L (fun i => (fmeanS false t.1 i).2 = false) (fun i _ => (fmeanS false t.1 i).1) 0 1 1 6) : Agr H 6 (hmeanS s.2 s.1) (L 6) := by
 have c : t.2 = false → ∀ i, i < 6 → fmeanS false s.1 i = fmeanS false t.1 i := fun h i hi => mean_congr (fun k hk => A.cell h _ (by omega)) false
 have g := F.good
 rw [hL] at g
 refine ⟨⟨fun h => ?_, fun h => ?_⟩, fun h i hi => ?_⟩
 ·obtain ⟨h1, h2⟩ := g.1 h
  obtain ⟨h3, h4⟩ := A.flag.1 h1
  exact ⟨(mean_good _ _).2 ⟨h3, fun i hi => by rw [c h1 i hi]; exact h2 i hi⟩, h4⟩
 ·obtain ⟨h3, h5⟩ := (mean_good _ _).1 h.1
  have h1 := A.flag.2 ⟨h3, h.2⟩
  exact g.2 ⟨h1, fun i hi => by rw [← c h1 i hi]; exact h5 i hi⟩
 ·obtain ⟨h1, h2⟩ := g.1 h
  obtain ⟨h3, h4⟩ := A.flag.1 h1
  have h5 := (mean_good s.1 s.2).2 ⟨h3, fun i hi => by rw [c h1 i hi]; exact h2 i hi⟩
  have := F.val h i hi 0 (by omega)
  rw [show 0 + i * 1 + 0 = i by omega] at this
  rw [mean_val h5 hi, this, c h1 i hi]
theorem fless_good (x m : Nat → Int) (b : Bool) : (flessS b x m).2 = false ↔ b = false ∧ ∀ k, k < 13 → ∀ i, i < 6 → (subS false (x (k * 6 + i)) (m i)).2 = false := by
 rw [fless_is]
 exact (less_ref x m b).good
theorem fless_val {x m : Nat → Int} {b : Bool} (h : (flessS b x m).2 = false) {k i : Nat} (hk : k < 13) (hi : i < 6) : (flessS b x m).1 (k * 6 + i) = (subS false (x (k * 6 + i)) (m i)).1 := by
 rw [fless_is] at h ⊢
 have := (less_ref x m b).val h k hk i hi
 rw [show 0 + k * 6 + i = k * 6 + i by omega] at this
 exact this
theorem less_stage {H : Prop} {s t : (Nat → Int) × Bool} (A : Agr H 6 s t) {x y : Nat → Int} (hx : t.2 = false → ∀ i, i < 78 → x i = y i) : Agr H 78 (hbesideS s.2 x s.1) (flessS t.2 y t.1) := by
 have c : t.2 = false → ∀ k, k < 13 → ∀ i, i < 6 → subS false (x (k * 6 + i)) (s.1 i) = subS false (y (k * 6 + i)) (t.1 i) := fun h k hk i hi => by rw [hx h _ (by omega), A.cell h i hi]
 refine ⟨⟨fun h => ?_, fun h => ?_⟩, fun h e he => ?_⟩
 ·obtain ⟨h1, h2⟩ := (fless_good _ _ _).1 h
  obtain ⟨h3, h4⟩ := A.flag.1 h1
  exact ⟨(beside_good _ _ _).2 ⟨h3, fun k hk i hi => by rw [c h1 k hk i hi]; exact h2 k hk i hi⟩, h4⟩
 ·obtain ⟨h3, h5⟩ := (beside_good _ _ _).1 h.1
  have h1 := A.flag.2 ⟨h3, h.2⟩
  exact (fless_good _ _ _).2 ⟨h1, fun k hk i hi => by rw [← c h1 k hk i hi]; exact h5 k hk i hi⟩
 ·obtain ⟨h1, h2⟩ := (fless_good _ _ _).1 h
  obtain ⟨h3, h4⟩ := A.flag.1 h1
  have h5 := (beside_good x s.1 s.2).2 ⟨h3, fun k hk i hi => by rw [c h1 k hk i hi]; exact h2 k hk i hi⟩
  obtain ⟨k, i, hk, hi, rfl⟩ : ∃ k i, k < 13 ∧ i < 6 ∧ e = k * 6 + i := ⟨e / 6, e % 6, by omega, by omega, by omega⟩
  rw [beside_val h5 hk hi, fless_val h hk hi, c h1 k hk i hi]
theorem prods_congr {x y x' y' : Nat → Int} (hx : ∀ i, i < 78 → x i = x' i) (hy : ∀ i, i < 78 → y i = y' i) {i j : Nat} (hi : i < 6) (hj : j < 6) : fproductsS false x i y j = fproductsS false x' i y' j :=
 prod_congr (fun k hk => hx _ (by omega)) (fun k hk => hy _ (by omega)) false
theorem parts_split (p : Nat → Prop) (h : ∀ i, i < 6 → ∀ j, j < 6 → p (i * 6 + j)) (e : Nat) (he : e < 36) : p e := by
 have := h (e / 6) (by omega) (e % 6) (by omega)
 rw [show e / 6 * 6 + e % 6 = e by omega] at this
 exact this
theorem bool_eq {a b : Bool} (h : a = false ↔ b = false) : a = b := by
 cases a <;> cases b
 ·rfl
 ·exact absurd (h.1 rfl) (by decide)
 ·exact absurd (h.2 rfl) (by decide)
 ·rfl
theorem upd7_cells (m : Nat → Int) (q : V4) (v : V3) : ∀ i, (updF (updF (updF (updF (updF (updF (updF m 0 q.1) 1 q.2.1) 2 q.2.2.1) 3 q.2.2.2) 4 v.1) 5 v.2.1) 6 v.2.2) i = guessF q v (fun e => m (7 + e)) i := fun i => by
 unfold guessF updF
 by_cases h : i < 7
 ·rw [if_pos h]
  have : i = 0 ∨ i = 1 ∨ i = 2 ∨ i = 3 ∨ i = 4 ∨ i = 5 ∨ i = 6 := by omega
  rcases this with rfl | rfl | rfl | rfl | rfl | rfl | rfl <;> simp
 ·rw [if_neg h, if_neg (by omega), if_neg (by omega), if_neg (by omega), if_neg (by omega), if_neg (by omega), if_neg (by omega), if_neg (by omega)]
  show m i = m (7 + (i - 7))
  rw [show 7 + (i - 7) = i by omega]
theorem guess_congr {q : V4} {v : V3} {p p' : Nat → Int} (h : ∀ e, e < 36 → p e = p' e) (i : Nat) (hi : i < 43) : guessF q v p i = guessF q v p' i := by
 unfold guessF
 by_cases k : i < 7
 ·rw [if_pos k, if_pos k]
 ·rw [if_neg k, if_neg k, h _ (by omega)]
theorem either_lo {i : Nat} (h : i < 3) (p q : Int) : heitherP i p q = p := by unfold heitherP; rw [if_pos (by omega)]
theorem either_hi {i : Nat} (h : 3 ≤ i) (p q : Int) : heitherP i p q = q := by unfold heitherP; rw [if_neg (by omega)]
end Go.Proofs.YtpjobkbefgehjaaGreat
namespace Go.Proofs.YtpjobkbefgehjaaGreat
open Go.RowKit
theorem sum_a {b : Bool} {p q : Nat → Int} {n : Nat} (h : (msumS b p q n).2 = false) : b = false ∧ (msumS false p q n).2 = false :=
 ahead (X := fun b => msumS b p q n) (by unfold msumS; exact sum_bad rfl n) h
theorem apply_fills (m p : Nat → Int) (b : Bool) : Fills (mApplyS_l0 m p 6 ((fun _ => 0), b)) (fun i => (msumS false (fun x_ => m (i * 6 + x_)) p 6).2 = false) (fun i _ => (msumS false (fun x_ => m (i * 6 + x_)) p 6).1) 0 1 1 6 := by
 refine fills (n := 6) (by omega) (fun i hi s hs _ => ?_) 6 (by omega)
 have e : mApplyS_l0 m p 6 ((fun _ => 0), b) (i + 1) = ((updF s.1 i (msumS s.2 (fun x_ => m (i * 6 + x_)) p 6).1), (msumS s.2 (fun x_ => m (i * 6 + x_)) p 6).2) := by
  rw [hs]; rfl
 rw [e]
 dsimp only
 refine ⟨⟨fun h => sum_a h, fun h => by rw [h.1]; exact h.2⟩, fun h c hc => ?_, fun e he => updF_off _ _ (by omega)⟩
 obtain rfl : c = 0 := by omega
 rw [show 0 + i * 1 + 0 = i by omega, updF_at, (sum_a h).1]
theorem mApply_is (b : Bool) (m p : Nat → Int) : mApplyS b m p 6 = msoundRS (mApplyS_l0 m p 6 ((fun _ => 0), b) 6).2 (mApplyS_l0 m p 6 ((fun _ => 0), b) 6).1 := by
 unfold mApplyS
 exact eta2 _
theorem soundR_flag (b : Bool) (g : Nat → Int) : (msoundRS b g).2 = b := by cases b <;> rfl
theorem apply_good (m p : Nat → Int) (b : Bool) : (zApply6 b m p).2 = false ↔ b = false ∧ ∀ i, i < 6 → (msumS false (fun x_ => m (i * 6 + x_)) p 6).2 = false := by
 rw [← mApply6_eq, mApply_is, soundR_flag]
 exact (apply_fills m p b).good
theorem apply_val {m p : Nat → Int} {b : Bool} (h : (zApply6 b m p).2 = false) {i : Nat} (hi : i < 6) : (zApply6 b m p).1 i = (msumS false (fun x_ => m (i * 6 + x_)) p 6).1 := by
 rw [← mApply6_eq, mApply_is] at h ⊢
 rw [soundR_flag] at h
 have := (apply_fills m p b).val h i hi 0 (by omega)
 rw [show 0 + i * 1 + 0 = i by omega] at this
 rw [h]
 exact this
theorem sum_comm (p q : Nat → Int) (z : Int × Bool) : ∀ n, msumS_l0 p q z n = msumS_l0 q p z n
 | 0 => rfl
 | n + 1 => by
  unfold msumS_l0
  rw [sum_comm p q z n]
  dsimp only
  rw [mul_swap]
theorem sum_congr {p q p' q' : Nat → Int} {n : Nat} (hp : ∀ k, k < n → p k = p' k) (hq : ∀ k, k < n → q k = q' k) (z : Int × Bool) : msumS_l0 p q z n = msumS_l0 p' q' z n := by
 induction n with
 | zero => rfl
 | succ n ih =>
  unfold msumS_l0
  rw [ih (fun k hk => hp k (by omega)) (fun k hk => hq k (by omega)), hp n (by omega), hq n (by omega)]
theorem mul_num {x y : Int} (h : (mulS false x y).2 = false) : numB y = true := by
 cases hy : numB y
 ·have : mulS false x y = (0, true) := by unfold mulS; exact partS_no (by unfold tk; simp [hy])
  rw [this] at h; cases h
 ·rfl
theorem sum_nums {p q : Nat → Int} {z : Int × Bool} : ∀ {n : Nat}, (msumS_l0 p q z n).2 = false → ∀ k, k < n → numB (q k) = true
 | n + 1, h, k, hk => by
  unfold msumS_l0 at h
  obtain ⟨h1, _⟩ := add_a h
  obtain ⟨h2, h3⟩ := mul_a h1
  rcases Nat.lt_succ_iff_lt_or_eq.1 hk with hk | rfl
  ·exact sum_nums h2 k hk
  ·exact mul_num h3
theorem mul_zero {y : Int} (h : numB y = true) : mulS false 0 y = (0, false) := by
 have h0 : numB 0 = true := by decide
 have h1 : numB 1099511627776 = true := by decide
 have hr : rnd (sz 0 * sz y) (sz 1099511627776) = 0 := by
  rw [show sz 0 = 0 from rfl, Int.zero_mul]
  decide
 unfold mulS partS
 rw [show tk false [0, y, 1099511627776] = true by unfold tk; simp [h, h0, h1], hr]
 have ho : ∀ m, out 0 m = (0, false) := fun m => by cases m <;> rfl
 rw [ho]
 rfl
theorem add_nought : addS false 0 0 = (0, false) := by decide
theorem sum_zero {q : Nat → Int} : ∀ n, (∀ k, k < n → numB (q k) = true) → msumS_l0 (fun _ => 0) q (0, false) n = (0, false)
 | 0, _ => rfl
 | n + 1, h => by
  unfold msumS_l0
  rw [sum_zero n (fun k hk => h k (by omega))]
  dsimp only
  rw [mul_zero (h n (by omega)), add_nought]
theorem row_good (y u : Nat → Int) (b : Bool) : (zApply6 b (matF y) u).2 = false ↔ b = false ∧ (msumS_l0 y u (0, false) 6).2 = false := by
 have e0 : msumS false (fun x_ => matF y (0 * 6 + x_)) u 6 = msumS_l0 y u (0, false) 6 := by
  rw [msum_is]
  exact sum_congr (fun k hk => by unfold matF; rw [if_pos (by omega), show 0 * 6 + k = k by omega]) (fun _ _ => rfl) _
 have e1 : ∀ i, 1 ≤ i → msumS false (fun x_ => matF y (i * 6 + x_)) u 6 = msumS_l0 (fun _ => 0) u (0, false) 6 := fun i hi => by
  rw [msum_is]
  exact sum_congr (fun k hk => by unfold matF; rw [if_neg (by omega)]) (fun _ _ => rfl) _
 rw [apply_good]
 constructor
 ·rintro ⟨h1, h2⟩
  have := h2 0 (by omega)
  rw [e0] at this
  exact ⟨h1, this⟩
 ·rintro ⟨h1, h2⟩
  refine ⟨h1, fun i hi => ?_⟩
  rcases Nat.eq_zero_or_pos i with rfl | hp
  ·rw [e0]; exact h2
  ·rw [e1 i hp, sum_zero 6 (sum_nums h2)]
theorem row_val {y u : Nat → Int} {b : Bool} (h : (zApply6 b (matF y) u).2 = false) : (zApply6 b (matF y) u).1 0 = (msumS_l0 y u (0, false) 6).1 := by
 rw [apply_val h (by omega), msum_is]
 have : msumS_l0 (fun x_ => matF y (0 * 6 + x_)) u (0, false) 6 = msumS_l0 y u (0, false) 6 := sum_congr (fun k hk => by unfold matF; rw [if_pos (by omega), show 0 * 6 + k = k by omega]) (fun _ _ => rfl) _
 rw [this]
theorem c33_put (s : Nat → Int) (o : Nat) (p : V6) (a b : V3) (h : p = fpairP a b) : updF (updF (updF (updF (updF (updF s o p.1) (o + 1) p.2.1) (o + 2) p.2.2.1) (o + 3) p.2.2.2.1) (o + 4) p.2.2.2.2.1) (o + 5) p.2.2.2.2.2 = put6 s o (c33 (a, b)) := by
 subst h
 rfl
theorem upd6_lo (f : Nat → Int) (a b : V3) : ((updF (updF (updF (updF (updF (updF f 0 a.1) 1 a.2.1) 2 a.2.2) 3 b.1) 4 b.2.1) 5 b.2.2) 0, (updF (updF (updF (updF (updF (updF f 0 a.1) 1 a.2.1) 2 a.2.2) 3 b.1) 4 b.2.1) 5 b.2.2) 1, (updF (updF (updF (updF (updF (updF f 0 a.1) 1 a.2.1) 2 a.2.2) 3 b.1) 4 b.2.1) 5 b.2.2) 2) = a := rfl
theorem upd6_hi (f : Nat → Int) (a b : V3) : ((updF (updF (updF (updF (updF (updF f 0 a.1) 1 a.2.1) 2 a.2.2) 3 b.1) 4 b.2.1) 5 b.2.2) 3, (updF (updF (updF (updF (updF (updF f 0 a.1) 1 a.2.1) 2 a.2.2) 3 b.1) 4 b.2.1) 5 b.2.2) 4, (updF (updF (updF (updF (updF (updF f 0 a.1) 1 a.2.1) 2 a.2.2) 3 b.1) 4 b.2.1) 5 b.2.2) 5) = b := rfl
theorem upd3_hi (f : Nat → Int) (a : V3) : ((updF (updF (updF f 0 a.1) 1 a.2.1) 2 a.2.2) 3, (updF (updF (updF f 0 a.1) 1 a.2.1) 2 a.2.2) 4, (updF (updF (updF f 0 a.1) 1 a.2.1) 2 a.2.2) 5) = (f 3, f 4, f 5) := rfl
theorem view_ref (g sky : Nat → Int) (r2 r5 : V3 × Bool) (r8 : (Nat → Int) × Bool) (b : Bool) : Fills (fMeetS_l12 g sky r2 r5 r8 ((fun _ => 0), b)) (fun k => ViewG g r8.1 r2.1 r5.1 k) (fun k => c33 (wS false (fattitudeS false g (rowK r8.1 k)).1 r2.1 r5.1).1) 0 6 6 13 := by
 refine fills (n := 13) (by omega) (fun k hk s hs _ => ?_) 13 (by omega)
 rw [fMeetS_l12_succ, ← hs]
 have e : fMeetS_l12s g sky r2 r5 r8 k s = (put6 s.1 (k * 6) (c33 (wS (fattitudeS s.2 g (rowK r8.1 k)).2 (fattitudeS s.2 g (rowK r8.1 k)).1 r2.1 r5.1).1), (wS (fattitudeS s.2 g (rowK r8.1 k)).2 (fattitudeS s.2 g (rowK r8.1 k)).1 r2.1 r5.1).2) := by
  unfold fMeetS_l12s
  dsimp only
  rw [upd6_lo, upd6_hi, c33_put _ _ _ _ _ rfl]
  unfold wS rowK
  dsimp only
 rw [e]
 dsimp only
 have key : ∀ {b : Bool}, (wS (fattitudeS b g (rowK r8.1 k)).2 (fattitudeS b g (rowK r8.1 k)).1 r2.1 r5.1).2 = false → b = false ∧ ViewG g r8.1 r2.1 r5.1 k := fun {b} h => by
  obtain ⟨h1, h2⟩ := w_a h
  obtain ⟨h3, h4⟩ := att_a h1
  subst h3
  exact ⟨rfl, h4, h2⟩
 refine ⟨⟨fun h => key h, fun h => ?_⟩, fun h j hj => ?_, fun i hi => put6_off _ _ _ (by omega)⟩
 ·rw [h.1, h.2.a]
  exact h.2.w
 ·obtain ⟨h1, h2⟩ := key h
  rw [show 0 + k * 6 + j = k * 6 + j by omega, put6_at _ _ _ hj, h1, h2.a]
theorem mean_ref2 (r6 : (Nat → Int) × Bool) (b : Bool) : Fills (fMeetS_l11 r6 ((fun _ => 0), b)) (fun i => (fmeanS false r6.1 i).2 = false) (fun i _ => (fmeanS false r6.1 i).1) 0 1 1 6 := by
 refine fills (n := 6) (by omega) (fun k hk s hs _ => ?_) 6 (by omega)
 rw [fMeetS_l11_succ, ← hs]
 unfold fMeetS_l11s
 dsimp only
 have hX := mean_true r6.1 k
 refine ⟨one_step (X := fun b => fmeanS b r6.1 k) hX s.2, fun h j hj => ?_, fun i hi => updF_off _ _ (by omega)⟩
 obtain rfl : j = 0 := by omega
 rw [show 0 + k * 1 + 0 = k by omega, updF_at]
 exact one_val (X := fun b => fmeanS b r6.1 k) hX h
theorem two_a {b : Bool} {x d : Nat → Int} {i j : Nat} (h : (fproductsS (fproductsS b d i d j).2 x i d j).2 = false) : b = false ∧ (fproductsS false d i d j).2 = false ∧ (fproductsS false x i d j).2 = false := by
 obtain ⟨h1, h2⟩ := prod_a h
 obtain ⟨h3, h4⟩ := prod_a h1
 exact ⟨h3, h4, h2⟩
theorem two_iff (b : Bool) (x d : Nat → Int) (i j : Nat) : (fproductsS (fproductsS b d i d j).2 x i d j).2 = false ↔ b = false ∧ (fproductsS false d i d j).2 = false ∧ (fproductsS false x i d j).2 = false :=
 ⟨two_a, fun h => by rw [h.1, h.2.1]; exact h.2.2⟩
theorem both_row_s (r8 r14 : (Nat → Int) × Bool) (i : Nat) (z : (Nat → Int) × (Nat → Int) × Bool) : Fills (fun j => ((fMeetS_l10 r8 r14 i z j).1, (fMeetS_l10 r8 r14 i z j).2.2)) (fun j => (fproductsS false r14.1 i r14.1 j).2 = false ∧ (fproductsS false r8.1 i r14.1 j).2 = false) (fun j _ => (fproductsS false r14.1 i r14.1 j).1) (i * 6) 1 1 6 := by
 refine fills (n := 6) (by omega) (fun j hj s hs _ => ?_) 6 (by omega)
 subst hs
 dsimp only
 rw [fMeetS_l10_succ]
 generalize fMeetS_l10 r8 r14 i z j = t
 unfold fMeetS_l10s
 dsimp only
 refine ⟨two_iff _ _ _ _ _, fun h c hc => ?_, fun e he => updF_off _ _ (by omega)⟩
 obtain rfl : c = 0 := by omega
 rw [show i * 6 + j * 1 + 0 = i * 6 + j by omega, updF_at, (two_a h).1]
theorem both_row_c (r8 r14 : (Nat → Int) × Bool) (i : Nat) (z : (Nat → Int) × (Nat → Int) × Bool) : Fills (fun j => ((fMeetS_l10 r8 r14 i z j).2.1, (fMeetS_l10 r8 r14 i z j).2.2)) (fun j => (fproductsS false r14.1 i r14.1 j).2 = false ∧ (fproductsS false r8.1 i r14.1 j).2 = false) (fun j _ => (fproductsS false r8.1 i r14.1 j).1) (i * 6) 1 1 6 := by
 refine fills (n := 6) (by omega) (fun j hj s hs _ => ?_) 6 (by omega)
 subst hs
 dsimp only
 rw [fMeetS_l10_succ]
 generalize fMeetS_l10 r8 r14 i z j = t
 unfold fMeetS_l10s
 dsimp only
 refine ⟨two_iff _ _ _ _ _, fun h c hc => ?_, fun e he => updF_off _ _ (by omega)⟩
 obtain rfl : c = 0 := by omega
 obtain ⟨h1, h2, _⟩ := two_a h
 rw [show i * 6 + j * 1 + 0 = i * 6 + j by omega, updF_at, h1, h2]
theorem l10_zero (r8 r14 : (Nat → Int) × Bool) (i : Nat) (z : (Nat → Int) × (Nat → Int) × Bool) : fMeetS_l10 r8 r14 i z 0 = z := rfl
theorem both_s (r8 r14 : (Nat → Int) × Bool) (b : Bool) (m : Nat) (hm : m ≤ 6) : Fills (fun i => ((fMeetS_l9 r8 r14 ((fun _ => 0), (fun _ => 0), b) i).1, (fMeetS_l9 r8 r14 ((fun _ => 0), (fun _ => 0), b) i).2.2)) (fun i => ∀ j, j < 6 → (fproductsS false r14.1 i r14.1 j).2 = false ∧ (fproductsS false r8.1 i r14.1 j).2 = false) (fun i j => (fproductsS false r14.1 i r14.1 j).1) 0 6 6 m := by
 refine fills (n := 6) (by omega) (fun i hi s hs _ => ?_) m hm
 subst hs
 dsimp only
 rw [fMeetS_l9_succ]
 generalize fMeetS_l9 r8 r14 ((fun _ => 0), (fun _ => 0), b) i = t
 unfold fMeetS_l9s
 dsimp only
 have F := both_row_s r8 r14 i (t.1, t.2.1, t.2.2)
 have G := F.good
 have V := F.val
 have Z := F.rest
 dsimp only at G V Z
 rw [l10_zero] at G
 rw [l10_zero] at Z
 dsimp only at G Z
 refine ⟨G, fun h j hj => ?_, fun e he => Z e (fun k hk => by omega)⟩
 have := V h j hj 0 (by omega)
 rw [show i * 6 + j * 1 + 0 = 0 + i * 6 + j by omega] at this
 exact this
theorem both_c (r8 r14 : (Nat → Int) × Bool) (b : Bool) (m : Nat) (hm : m ≤ 6) : Fills (fun i => ((fMeetS_l9 r8 r14 ((fun _ => 0), (fun _ => 0), b) i).2.1, (fMeetS_l9 r8 r14 ((fun _ => 0), (fun _ => 0), b) i).2.2)) (fun i => ∀ j, j < 6 → (fproductsS false r14.1 i r14.1 j).2 = false ∧ (fproductsS false r8.1 i r14.1 j).2 = false) (fun i j => (fproductsS false r8.1 i r14.1 j).1) 0 6 6 m := by
 refine fills (n := 6) (by omega) (fun i hi s hs _ => ?_) m hm
 subst hs
 dsimp only
 rw [fMeetS_l9_succ]
 generalize fMeetS_l9 r8 r14 ((fun _ => 0), (fun _ => 0), b) i = t
 unfold fMeetS_l9s
 dsimp only
 have F := both_row_c r8 r14 i (t.1, t.2.1, t.2.2)
 have G := F.good
 have V := F.val
 have Z := F.rest
 dsimp only at G V Z
 rw [l10_zero] at G
 rw [l10_zero] at Z
 dsimp only at G Z
 refine ⟨G, fun h j hj => ?_, fun e he => Z e (fun k hk => by omega)⟩
 have := V h j hj 0 (by omega)
 rw [show i * 6 + j * 1 + 0 = 0 + i * 6 + j by omega] at this
 exact this
theorem l9_zero (r8 r14 : (Nat → Int) × Bool) (z : (Nat → Int) × (Nat → Int) × Bool) : fMeetS_l9 r8 r14 z 0 = z := rfl
theorem both_all (r8 r14 : (Nat → Int) × Bool) (b : Bool) (m : Nat) (hm : m ≤ 6) :
  ((fMeetS_l9 r8 r14 ((fun _ => 0), (fun _ => 0), b) m).2.2 = false ↔ b = false ∧ ∀ i, i < m → ∀ j, j < 6 → (fproductsS false r14.1 i r14.1 j).2 = false ∧ (fproductsS false r8.1 i r14.1 j).2 = false) ∧
  ((fMeetS_l9 r8 r14 ((fun _ => 0), (fun _ => 0), b) m).2.2 = false → ∀ k, k < m → ∀ j, j < 6 → (fMeetS_l9 r8 r14 ((fun _ => 0), (fun _ => 0), b) m).1 (0 + k * 6 + j) = (fproductsS false r14.1 k r14.1 j).1) ∧
  (∀ i, (∀ k, k < m → i < 0 + k * 6 ∨ 0 + k * 6 + 6 ≤ i) → (fMeetS_l9 r8 r14 ((fun _ => 0), (fun _ => 0), b) m).1 i = 0) ∧
  ((fMeetS_l9 r8 r14 ((fun _ => 0), (fun _ => 0), b) m).2.2 = false → ∀ k, k < m → ∀ j, j < 6 → (fMeetS_l9 r8 r14 ((fun _ => 0), (fun _ => 0), b) m).2.1 (0 + k * 6 + j) = (fproductsS false r8.1 k r14.1 j).1) ∧
  (∀ i, (∀ k, k < m → i < 0 + k * 6 ∨ 0 + k * 6 + 6 ≤ i) → (fMeetS_l9 r8 r14 ((fun _ => 0), (fun _ => 0), b) m).2.1 i = 0) := by
 have F1 := both_s r8 r14 b m hm
 have F2 := both_c r8 r14 b m hm
 have GS := F1.good
 have VS := F1.val
 have ZS := F1.rest
 have VC := F2.val
 have ZC := F2.rest
 dsimp only at GS VS ZS VC ZC
 rw [l9_zero] at GS ZS ZC
 exact ⟨GS, VS, ZS, VC, ZC⟩
structure RaiseM (z : (Nat → Int) × Bool) (L : (Nat → Int) × Bool) (m : Nat) : Prop where
 good : L.2 = false ↔ z.2 = false ∧ ∀ i, i < m → (addS false (z.1 (i * 7)) 67108864).2 = false ∧ (addS false (z.1 (21 + i * 7)) 268435456).2 = false
 lo : L.2 = false → ∀ i, i < m → L.1 (i * 7) = (addS false (z.1 (i * 7)) 67108864).1
 hi : L.2 = false → ∀ i, i < m → L.1 (21 + i * 7) = (addS false (z.1 (21 + i * 7)) 268435456).1
 rest : ∀ e, (∀ i, i < m → e ≠ i * 7 ∧ e ≠ 21 + i * 7) → L.1 e = z.1 e
theorem raise_ref2 (z : (Nat → Int) × Bool) : ∀ m, m ≤ 3 → RaiseM z (fMeetS_l8 z m) m
 | 0, _ => ⟨⟨fun h => ⟨h, fun i hi => absurd hi (Nat.not_lt_zero i)⟩, fun h => h.1⟩, fun _ i hi => absurd hi (Nat.not_lt_zero i), fun _ i hi => absurd hi (Nat.not_lt_zero i), fun _ _ => rfl⟩
 | m + 1, hm => by
  have ih := raise_ref2 z m (by omega)
  rw [fMeetS_l8_succ]
  generalize fMeetS_l8 z m = s at ih ⊢
  have e1 : s.1 (m * 7) = z.1 (m * 7) := ih.rest _ (fun i hi => by omega)
  have e2 : s.1 (21 + m * 7) = z.1 (21 + m * 7) := ih.rest _ (fun i hi => by omega)
  unfold fMeetS_l8s
  dsimp only
  rw [show m * 6 + m = m * 7 by omega, show (m + 3) * 6 + (m + 3) = 21 + m * 7 by omega, updF_off _ _ (show 21 + m * 7 ≠ m * 7 by omega), e1, e2]
  have key : (addS (addS s.2 (z.1 (m * 7)) 67108864).2 (z.1 (21 + m * 7)) 268435456).2 = false → s.2 = false ∧ (addS false (z.1 (m * 7)) 67108864).2 = false ∧ (addS false (z.1 (21 + m * 7)) 268435456).2 = false := fun h => by
   obtain ⟨h1, h2⟩ := add_a h
   obtain ⟨h3, h4⟩ := add_a h1
   exact ⟨h3, h4, h2⟩
  refine ⟨⟨fun h => ?_, fun h => ?_⟩, fun h i hi => ?_, fun h i hi => ?_, fun e he => ?_⟩ <;> dsimp only at *
  ·obtain ⟨k1, k2, k3⟩ := key h
   obtain ⟨j1, j2⟩ := ih.good.1 k1
   refine ⟨j1, fun i hi => ?_⟩
   rcases Nat.lt_succ_iff_lt_or_eq.1 hi with hi | rfl
   ·exact j2 i hi
   ·exact ⟨k2, k3⟩
  ·have k1 := ih.good.2 ⟨h.1, fun i hi => h.2 i (by omega)⟩
   obtain ⟨a1, a2⟩ := h.2 m (by omega)
   rw [k1, a1]
   exact a2
  ·obtain ⟨k1, k2, k3⟩ := key h
   rcases Nat.lt_succ_iff_lt_or_eq.1 hi with hi | rfl
   ·rw [updF_off _ _ (by omega), updF_off _ _ (by omega)]
    exact ih.lo k1 i hi
   ·rw [updF_off _ _ (by omega), updF_at, k1]
  ·obtain ⟨k1, k2, k3⟩ := key h
   rcases Nat.lt_succ_iff_lt_or_eq.1 hi with hi | rfl
   ·rw [updF_off _ _ (by omega), updF_off _ _ (by omega)]
    exact ih.hi k1 i hi
   ·rw [updF_at, k1, k2]
  ·have := he m (by omega)
   rw [updF_off _ _ (by omega), updF_off _ _ (by omega)]
   exact ih.rest e (fun i hi => he i (by omega))
theorem less_ref2 (p : Nat → Int) (r13 : (Nat → Int) × Bool) (b : Bool) : Fills (fMeetS_l7 r13 (p, b)) (fun i => (subS false (p i) (r13.1 i)).2 = false) (fun i _ => (subS false (p i) (r13.1 i)).1) 0 1 1 6 := by
 refine fills (n := 6) (by omega) (fun i hi s hs ho => ?_) 6 (by omega)
 have h0 := ho 0 (by omega)
 rw [show 0 + i * 1 + 0 = i by omega] at h0
 rw [fMeetS_l7_succ, ← hs]
 unfold fMeetS_l7s
 dsimp only
 rw [show s.1 i = p i from h0]
 have hX : (subS true (p i) (r13.1 i)).2 = true := by rw [subS_true]
 refine ⟨one_step (X := fun b => subS b (p i) (r13.1 i)) hX s.2, fun h c hc => ?_, fun e he => updF_off _ _ (by omega)⟩
 obtain rfl : c = 0 := by omega
 rw [show 0 + i * 1 + 0 = i by omega, updF_at]
 exact one_val (X := fun b => subS b (p i) (r13.1 i)) hX h
theorem chi_ref (r25 r28 : (Nat → Int) × Bool) (z : Int × Bool) : ∀ n, fMeetS_l6 r25 r28 z n = msumS_l0 r25.1 r28.1 z n
 | 0 => rfl
 | n + 1 => by
  rw [fMeetS_l6_succ, chi_ref r25 r28 z n]
  rfl
theorem k_ref (r18 : (Nat → Int) × (Nat → Int) × Bool) (r26 : (Nat → Int) × Bool) (b : Bool) : Fills (fMeetS_l5 r18 r26 ((fun _ => 0), b)) (fun i => (zSolve6 false r26.1 (rowK r18.2.1 i)).2 = false) (fun i => (zSolve6 false r26.1 (rowK r18.2.1 i)).1) 0 6 6 6 := by
 refine fills (n := 6) (by omega) (fun i hi s hs _ => ?_) 6 (by omega)
 rw [fMeetS_l5_succ, ← hs]
 have e : fMeetS_l5s r18 r26 i s = (put6 s.1 (i * 6) (zSolve6 s.2 r26.1 (rowK r18.2.1 i)).1, (zSolve6 s.2 r26.1 (rowK r18.2.1 i)).2) := by
  unfold fMeetS_l5s put6 rowK
  dsimp only
 rw [e]
 dsimp only
 refine ⟨⟨fun h => solve_a h, fun h => by rw [h.1]; exact h.2⟩, fun h j hj => ?_, fun e he => put6_off _ _ _ (by omega)⟩
 rw [show 0 + i * 6 + j = i * 6 + j by omega, put6_at _ _ _ hj, (solve_a h).1]
theorem t4_ref (i j : Nat) (r18 : (Nat → Int) × (Nat → Int) × Bool) (r35 : (Nat → Int) × Bool) (z : Int × Bool) : ∀ n, fMeetS_l4 i j r18 r35 z n = msumS_l0 (rowK r35.1 i) (rowK r18.2.1 j) z n
 | 0 => rfl
 | n + 1 => by
  rw [fMeetS_l4_succ, t4_ref i j r18 r35 z n]
  rfl
def tmS (b : Bool) (n : Int) (p q : Nat → Int) : Int × Bool := let p1 := msumS_l0 p q (0, b) 6; let p2 := subS p1.2 n p1.1; (p2.1, p2.2)
theorem tm_true (n : Int) (p q : Nat → Int) : (tmS true n p q).2 = true := by
 unfold tmS
 dsimp only
 rw [show (msumS_l0 p q (0, true) 6).2 = true from sum_bad rfl 6, subS_true]
theorem t_row_ref (g : Nat → Int) (i : Nat) (r18 : (Nat → Int) × (Nat → Int) × Bool) (r35 : (Nat → Int) × Bool) (z : (Nat → Int) × Bool) : Fills (fMeetS_l3 g i r18 r35 z) (fun j => (tmS false (g (7 + i * 6 + j)) (rowK r35.1 i) (rowK r18.2.1 j)).2 = false) (fun j _ => (tmS false (g (7 + i * 6 + j)) (rowK r35.1 i) (rowK r18.2.1 j)).1) (i * 6) 1 1 6 := by
 refine fills (n := 6) (by omega) (fun j hj s hs _ => ?_) 6 (by omega)
 rw [fMeetS_l3_succ, ← hs]
 have e : fMeetS_l3s g i r18 r35 j s = (updF s.1 (i * 6 + j) (tmS s.2 (g (7 + i * 6 + j)) (rowK r35.1 i) (rowK r18.2.1 j)).1, (tmS s.2 (g (7 + i * 6 + j)) (rowK r35.1 i) (rowK r18.2.1 j)).2) := by
  unfold fMeetS_l3s tmS
  rw [t4_ref]
 rw [e]
 dsimp only
 have hX := tm_true (g (7 + i * 6 + j)) (rowK r35.1 i) (rowK r18.2.1 j)
 refine ⟨one_step (X := fun b => tmS b (g (7 + i * 6 + j)) (rowK r35.1 i) (rowK r18.2.1 j)) hX s.2, fun h c hc => ?_, fun e he => updF_off _ _ (by omega)⟩
 obtain rfl : c = 0 := by omega
 rw [show i * 6 + j * 1 + 0 = i * 6 + j by omega, updF_at]
 exact one_val (X := fun b => tmS b (g (7 + i * 6 + j)) (rowK r35.1 i) (rowK r18.2.1 j)) hX h
theorem t_ref (g : Nat → Int) (r18 : (Nat → Int) × (Nat → Int) × Bool) (r35 : (Nat → Int) × Bool) (b : Bool) : Fills (fMeetS_l2 g r18 r35 ((fun _ => 0), b)) (fun i => ∀ j, j < 6 → (tmS false (g (7 + i * 6 + j)) (rowK r35.1 i) (rowK r18.2.1 j)).2 = false) (fun i j => (tmS false (g (7 + i * 6 + j)) (rowK r35.1 i) (rowK r18.2.1 j)).1) 0 6 6 6 := by
 refine fills (n := 6) (by omega) (fun i hi s hs _ => ?_) 6 (by omega)
 rw [fMeetS_l2_succ, ← hs]
 unfold fMeetS_l2s
 dsimp only
 have F := t_row_ref g i r18 r35 (s.1, s.2)
 refine ⟨F.good, fun h j hj => ?_, fun e he => F.rest e (fun k hk => by omega)⟩
 have := F.val h j hj 0 (by omega)
 rw [show i * 6 + j * 1 + 0 = 0 + i * 6 + j by omega] at this
 exact this
theorem even_row_ref (i : Nat) (r39 : (Nat → Int) × Bool) (z : (Nat → Int) × Bool) : Fills (fMeetS_l1 i r39 z) (fun j => (halfS false (r39.1 (i * 6 + j)) (r39.1 (j * 6 + i))).2 = false) (fun j _ => (halfS false (r39.1 (i * 6 + j)) (r39.1 (j * 6 + i))).1) (7 + i * 6) 1 1 6 := by
 refine fills (n := 6) (by omega) (fun j hj s hs _ => ?_) 6 (by omega)
 rw [fMeetS_l1_succ, ← hs]
 have e : fMeetS_l1s i r39 j s = (updF s.1 (7 + i * 6 + j) (halfS s.2 (r39.1 (i * 6 + j)) (r39.1 (j * 6 + i))).1, (halfS s.2 (r39.1 (i * 6 + j)) (r39.1 (j * 6 + i))).2) := rfl
 rw [e]
 dsimp only
 have hX := half_true (r39.1 (i * 6 + j)) (r39.1 (j * 6 + i))
 refine ⟨one_step (X := fun b => halfS b (r39.1 (i * 6 + j)) (r39.1 (j * 6 + i))) hX s.2, fun h c hc => ?_, fun e he => updF_off _ _ (by omega)⟩
 obtain rfl : c = 0 := by omega
 rw [show 7 + i * 6 + j * 1 + 0 = 7 + i * 6 + j by omega, updF_at]
 exact one_val (X := fun b => halfS b (r39.1 (i * 6 + j)) (r39.1 (j * 6 + i))) hX h
theorem even_ref (r39 : (Nat → Int) × Bool) (b : Bool) : Fills (fMeetS_l0 r39 ((fun _ => 0), b)) (fun i => ∀ j, j < 6 → (halfS false (r39.1 (i * 6 + j)) (r39.1 (j * 6 + i))).2 = false) (fun i j => (halfS false (r39.1 (i * 6 + j)) (r39.1 (j * 6 + i))).1) 7 6 6 6 := by
 refine fills (n := 6) (by omega) (fun i hi s hs _ => ?_) 6 (by omega)
 rw [fMeetS_l0_succ, ← hs]
 unfold fMeetS_l0s
 dsimp only
 have F := even_row_ref i r39 (s.1, s.2)
 refine ⟨F.good, fun h j hj => ?_, fun e he => F.rest e (fun k hk => by omega)⟩
 have := F.val h j hj 0 (by omega)
 rw [show 7 + i * 6 + j * 1 + 0 = 7 + i * 6 + j by omega] at this
 exact this
def trS (b : Bool) (p c k : Nat → Int) : (Nat → Int) × Bool := let p2 := zApply6 b c k; let p3 := hlessS p2.2 p p2.1; (p3.1, p3.2)
theorem tr_good (p c k : Nat → Int) (b : Bool) : (trS b p c k).2 = false ↔ b = false ∧ ∀ j, j < 6 → (tmS false (p j) k (rowK c j)).2 = false := by
 have e : ∀ j, msumS false (fun x_ => c (j * 6 + x_)) k 6 = msumS_l0 k (rowK c j) (0, false) 6 := fun j => by rw [msum_is, sum_comm]; rfl
 unfold trS
 dsimp only
 rw [less_good]
 constructor
 ·rintro ⟨h1, h2⟩
  obtain ⟨h3, h4⟩ := (apply_good _ _ _).1 h1
  refine ⟨h3, fun j hj => ?_⟩
  have h5 := h2 j hj
  have h6 := h4 j hj
  rw [apply_val h1 hj, e] at h5
  rw [e] at h6
  unfold tmS
  dsimp only
  rw [h6]
  exact h5
 ·rintro ⟨h1, h2⟩
  have h3 : ∀ j, j < 6 → (msumS_l0 k (rowK c j) (0, false) 6).2 = false ∧ (subS false (p j) (msumS_l0 k (rowK c j) (0, false) 6).1).2 = false := fun j hj => by
   have := h2 j hj
   unfold tmS at this
   obtain ⟨h4, h5⟩ := sub_a this
   exact ⟨h4, h5⟩
  have h4 := (apply_good c k b).2 ⟨h1, fun j hj => by rw [e]; exact (h3 j hj).1⟩
  refine ⟨h4, fun j hj => ?_⟩
  rw [apply_val h4 hj, e]
  exact (h3 j hj).2
theorem tr_val {p c k : Nat → Int} {b : Bool} (h : (trS b p c k).2 = false) {j : Nat} (hj : j < 6) : (trS b p c k).1 j = (tmS false (p j) k (rowK c j)).1 := by
 have hg := ((tr_good p c k b).1 h).2 j hj
 unfold trS at h ⊢
 dsimp only at h ⊢
 rw [less_val h hj]
 have h1 := ((less_good _ _ _).1 h).1
 rw [apply_val h1 hj, msum_is, sum_comm]
 unfold tmS at hg ⊢
 dsimp only at hg ⊢
 rw [(sub_a hg).1]
 rfl
theorem met_step (g l c : Nat → Int) (i : Nat) (s : (Nat → Int) × (Nat → Int) × Bool) : hmetS_l0s g l c i s = (put6 s.1 (i * 6) (zSolve6 s.2.2 l (rowK c i)).1, put6 s.2.1 (i * 6) (trS (zSolve6 s.2.2 l (rowK c i)).2 (fun x_ => g (7 + i * 6 + x_)) c (fun x_ => put6 s.1 (i * 6) (zSolve6 s.2.2 l (rowK c i)).1 (i * 6 + x_))).1, (trS (zSolve6 s.2.2 l (rowK c i)).2 (fun x_ => g (7 + i * 6 + x_)) c (fun x_ => put6 s.1 (i * 6) (zSolve6 s.2.2 l (rowK c i)).1 (i * 6 + x_))).2) := by
 unfold hmetS_l0s put6 rowK trS
 dsimp only
theorem tm_congr {n : Int} {p p' q : Nat → Int} (h : ∀ k, k < 6 → p k = p' k) (b : Bool) : tmS b n p q = tmS b n p' q := by
 unfold tmS
 rw [sum_congr h (fun _ _ => rfl)]
structure MetG (g l c : Nat → Int) (i : Nat) : Prop where
 k : (zSolve6 false l (rowK c i)).2 = false
 t : ∀ j, j < 6 → (tmS false (g (7 + i * 6 + j)) (zSolve6 false l (rowK c i)).1 (rowK c j)).2 = false
theorem met_iff (g l c : Nat → Int) (i : Nat) (s : Nat → Int) (b : Bool) : (trS (zSolve6 b l (rowK c i)).2 (fun x_ => g (7 + i * 6 + x_)) c (fun x_ => put6 s (i * 6) (zSolve6 b l (rowK c i)).1 (i * 6 + x_))).2 = false ↔ b = false ∧ MetG g l c i := by
 have e : ∀ b j, tmS false (g (7 + i * 6 + j)) (fun x_ => put6 s (i * 6) (zSolve6 b l (rowK c i)).1 (i * 6 + x_)) (rowK c j) = tmS false (g (7 + i * 6 + j)) (zSolve6 b l (rowK c i)).1 (rowK c j) := fun b j => tm_congr (fun k hk => put6_at _ _ _ hk) false
 rw [tr_good]
 constructor
 ·rintro ⟨h1, h2⟩
  obtain ⟨h3, h4⟩ := solve_a h1
  subst h3
  exact ⟨rfl, h4, fun j hj => by rw [← e]; exact h2 j hj⟩
 ·rintro ⟨rfl, h⟩
  exact ⟨h.k, fun j hj => by rw [e]; exact h.t j hj⟩
theorem met_k (g l c : Nat → Int) (b : Bool) : Fills (fun i => ((hmetS_l0 g l c ((fun _ => 0), (fun _ => 0), b) i).1, (hmetS_l0 g l c ((fun _ => 0), (fun _ => 0), b) i).2.2)) (MetG g l c) (fun i => (zSolve6 false l (rowK c i)).1) 0 6 6 6 := by
 refine fills (n := 6) (by omega) (fun i hi s hs _ => ?_) 6 (by omega)
 subst hs
 dsimp only
 rw [hmetS_l0_succ]
 generalize hmetS_l0 g l c ((fun _ => 0), (fun _ => 0), b) i = t
 rw [met_step]
 dsimp only
 refine ⟨met_iff g l c i t.1 t.2.2, fun h j hj => ?_, fun e he => put6_off _ _ _ (by omega)⟩
 rw [show 0 + i * 6 + j = i * 6 + j by omega, put6_at _ _ _ hj, ((met_iff g l c i t.1 t.2.2).1 h).1]
theorem met_t (g l c : Nat → Int) (b : Bool) : Fills (fun i => ((hmetS_l0 g l c ((fun _ => 0), (fun _ => 0), b) i).2.1, (hmetS_l0 g l c ((fun _ => 0), (fun _ => 0), b) i).2.2)) (MetG g l c) (fun i j => (tmS false (g (7 + i * 6 + j)) (zSolve6 false l (rowK c i)).1 (rowK c j)).1) 0 6 6 6 := by
 refine fills (n := 6) (by omega) (fun i hi s hs _ => ?_) 6 (by omega)
 subst hs
 dsimp only
 rw [hmetS_l0_succ]
 generalize hmetS_l0 g l c ((fun _ => 0), (fun _ => 0), b) i = t
 rw [met_step]
 dsimp only
 refine ⟨met_iff g l c i t.1 t.2.2, fun h j hj => ?_, fun e he => put6_off _ _ _ (by omega)⟩
 rw [show 0 + i * 6 + j = i * 6 + j by omega, put6_at _ _ _ hj, tr_val h hj, ((met_iff g l c i t.1 t.2.2).1 h).1, tm_congr (fun k hk => put6_at _ _ _ hk) false]
end Go.Proofs.YtpjobkbefgehjaaGreat
namespace Go.Proofs.YtpjobkbefgehjaaGreat
open Go.RowKit
theorem fMeet_chain (bad : Bool) (g : Nat → Int) (sky : Nat → Int) (body : Nat → Int) : ∃ (r2 : V3 × Bool) (r3 : V3 × Bool) (r5 : V3 × Bool) (r6 : V3 × Bool) (r8 : (Nat → Int) × Bool) (r11 : (Nat → Int) × Bool) (r13 : (Nat → Int) × Bool) (r14 : (Nat → Int) × Bool) (r18 : (Nat → Int) × (Nat → Int) × Bool) (r22 : (Nat → Int) × Bool) (r23 : V6) (r25 : (Nat → Int) × Bool) (r26 : (Nat → Int) × Bool) (r28 : (Nat → Int) × Bool) (r32 : Int × Bool) (r35 : (Nat → Int) × Bool) (r36 : (Nat → Int) × Bool) (r39 : (Nat → Int) × Bool) (r41 : (Nat → Int) × Bool) (r42 : V3) (r43 : V4 × Bool) (r44 : V4 × Bool) (r45 : V4 × Bool) (r47 : V3) (r48 : V3 × Bool),
  r2 = vUnitS bad ((sky 0), (sky 1), (sky 2)) ∧ r3 = vUnitS r2.2 ((body 0), (body 1), (body 2)) ∧ r5 = vUnitS r3.2 (((updF (updF (updF sky 0 r2.1.1) 1 r2.1.2.1) 2 r2.1.2.2) 3), ((updF (updF (updF sky 0 r2.1.1) 1 r2.1.2.1) 2 r2.1.2.2) 4), ((updF (updF (updF sky 0 r2.1.1) 1 r2.1.2.1) 2 r2.1.2.2) 5)) ∧ r6 = vUnitS r5.2 (((updF (updF (updF body 0 r3.1.1) 1 r3.1.2.1) 2 r3.1.2.2) 3), ((updF (updF (updF body 0 r3.1.1) 1 r3.1.2.1) 2 r3.1.2.2) 4), ((updF (updF (updF body 0 r3.1.1) 1 r3.1.2.1) 2 r3.1.2.2) 5)) ∧ r8 = fPointsS r6.2 g ∧ r11 = fMeetS_l12 g sky r2 r5 r8 ((fun _ => 0), r8.2) 13 ∧ r13 = fMeetS_l11 r11 ((fun _ => 0), r11.2) 6 ∧ r14 = flessS r13.2 r11.1 r13.1 ∧ r18 = fMeetS_l9 r8 r14 ((fun _ => 0), (fun _ => 0), r14.2) 6 ∧ r22 = fMeetS_l8 (r18.1, r18.2.2) 3 ∧ r23 = fpairP (((updF (updF (updF (updF (updF (updF body 0 r3.1.1) 1 r3.1.2.1) 2 r3.1.2.2) 3 r6.1.1) 4 r6.1.2.1) 5 r6.1.2.2) 0), ((updF (updF (updF (updF (updF (updF body 0 r3.1.1) 1 r3.1.2.1) 2 r3.1.2.2) 3 r6.1.1) 4 r6.1.2.1) 5 r6.1.2.2) 1), ((updF (updF (updF (updF (updF (updF body 0 r3.1.1) 1 r3.1.2.1) 2 r3.1.2.2) 3 r6.1.1) 4 r6.1.2.1) 5 r6.1.2.2) 2)) (((updF (updF (updF (updF (updF (updF body 0 r3.1.1) 1 r3.1.2.1) 2 r3.1.2.2) 3 r6.1.1) 4 r6.1.2.1) 5 r6.1.2.2) 3), ((updF (updF (updF (updF (updF (updF body 0 r3.1.1) 1 r3.1.2.1) 2 r3.1.2.2) 3 r6.1.1) 4 r6.1.2.1) 5 r6.1.2.2) 4), ((updF (updF (updF (updF (updF (updF body 0 r3.1.1) 1 r3.1.2.1) 2 r3.1.2.2) 3 r6.1.1) 4 r6.1.2.1) 5 r6.1.2.2) 5)) ∧ r25 = fMeetS_l7 r13 ((fun i_ => if i_ = 0 then r23.1 else if i_ = 1 then r23.2.1 else if i_ = 2 then r23.2.2.1 else if i_ = 3 then r23.2.2.2.1 else if i_ = 4 then r23.2.2.2.2.1 else r23.2.2.2.2.2), r22.2) 6 ∧ r26 = zRoot6 r25.2 r22.1 ∧ r28 = zSolve6 r26.2 r26.1 r25.1 ∧ r32 = fMeetS_l6 r25 r28 (0, r28.2) 6 ∧ r35 = fMeetS_l5 r18 r26 ((fun _ => 0), r32.2) 6 ∧ r36 = zApply6 r35.2 r35.1 r25.1 ∧ r39 = fMeetS_l2 g r18 r35 ((fun _ => 0), r36.2) 6 ∧ r41 = fMeetS_l0 r39 ((fun _ => 0), r39.2) 6 ∧ r42 = ffirstP r36.1 ∧ r43 = qFromRodS r41.2 r42 ∧ r44 = qMulS r43.2 r43.1 ((g 0), (g 1), (g 2), (g 3)) ∧ r45 = qUnitS r44.2 r44.1 ∧ r47 = flastP r36.1 ∧ r48 = vAddS r45.2 ((g 4), (g 5), (g 6)) r47 ∧
  fMeetS bad g sky body = if r32.2 then (((fun _ => 0), 0, false), r32.2) else if r32.1 > 32985348833280 then ((g, r32.1, false), r32.2) else if r48.2 then (((fun _ => 0), 0, false), r48.2) else (((updF (updF (updF (updF (updF (updF (updF r41.1 0 r45.1.1) 1 r45.1.2.1) 2 r45.1.2.2.1) 3 r45.1.2.2.2) 4 r48.1.1) 5 r48.1.2.1) 6 r48.1.2.2), r32.1, true), r48.2) := by
 refine ⟨_, _, _, _, _, _, _, _, _, _, _, _, _, _, _, _, _, _, _, _, _, _, _, _, _, rfl, rfl, rfl, rfl, rfl, rfl, rfl, rfl, rfl, rfl, rfl, rfl, rfl, rfl, rfl, rfl, rfl, rfl, rfl, rfl, rfl, rfl, rfl, rfl, rfl, ?_⟩
 unfold fMeetS
 exact rfl
theorem hMeet_chain (bad : Bool) (g : Nat → Int) (sky : Nat → Int) (body : Nat → Int) : ∃ (r1 : (Nat → Int) × Bool) (r3 : V6 × Bool) (r4 : (Nat → Int) × Bool) (r5 : (Nat → Int) × Bool) (r7 : (Nat → Int) × Bool) (r9 : (Nat → Int) × Bool) (r10 : (Nat → Int) × Bool) (r12 : (Nat → Int) × Bool) (r14 : V6 × Bool) (r15 : V6) (r16 : (Nat → Int) × Bool) (r17 : (Nat → Int) × Bool) (r19 : (Nat → Int) × Bool) (r20 : (Nat → Int) × Bool) (r21 : (Nat → Int) × Bool),
  r1 = hPointsS bad g ∧ r3 = hunitsS r1.2 sky ∧ r4 = hviewedS r3.2 g r1.1 (fun i_ => if i_ = 0 then r3.1.1 else if i_ = 1 then r3.1.2.1 else if i_ = 2 then r3.1.2.2.1 else if i_ = 3 then r3.1.2.2.2.1 else if i_ = 4 then r3.1.2.2.2.2.1 else r3.1.2.2.2.2.2) ∧ r5 = hmeanS r4.2 r4.1 ∧ r7 = hbesideS r5.2 r4.1 r5.1 ∧ r9 = hproductsS r7.2 r7.1 r7.1 ∧ r10 = hraisedS r9.2 r9.1 67108864 268435456 ∧ r12 = hproductsS r10.2 r1.1 r7.1 ∧ r14 = hunitsS r12.2 body ∧ r15 = hjoinedP r14.1 ∧ r16 = hlessS r14.2 (fun i_ => if i_ = 0 then r15.1 else if i_ = 1 then r15.2.1 else if i_ = 2 then r15.2.2.1 else if i_ = 3 then r15.2.2.2.1 else if i_ = 4 then r15.2.2.2.2.1 else r15.2.2.2.2.2) r5.1 ∧ r17 = zRoot6 r16.2 r10.1 ∧ r19 = zSolve6 r17.2 r17.1 r16.1 ∧ r20 = zApply6 r19.2 (matF r16.1) r19.1 ∧ r21 = hmetS r20.2 g r17.1 r12.1 r16.1 ∧
  hMeetS bad g sky body = if (r20.1 0) > 32985348833280 then ((g, (r20.1 0), false), r20.2) else if r21.2 then (((fun _ => 0), 0, false), r21.2) else ((r21.1, (r20.1 0), true), r21.2) := by
 refine ⟨_, _, _, _, _, _, _, _, _, _, _, _, _, _, _, rfl, rfl, rfl, rfl, rfl, rfl, rfl, rfl, rfl, rfl, rfl, rfl, rfl, rfl, rfl, ?_⟩
 unfold hMeetS
 exact rfl
theorem hmet_chain (bad : Bool) (g : Nat → Int) (l : Nat → Int) (c : Nat → Int) (y : Nat → Int) : ∃ (r5 : (Nat → Int) × (Nat → Int) × Bool) (r6 : (Nat → Int) × Bool) (r8 : V4 × Bool) (r9 : V3 × Bool) (r10 : (Nat → Int) × Bool),
  r5 = hmetS_l0 g l c ((fun _ => 0), (fun _ => 0), bad) 6 ∧ r6 = zApply6 r5.2.2 r5.1 y ∧ r8 = hturnedS r6.2 ((g 0), (g 1), (g 2), (g 3)) r6.1 ∧ r9 = hbiasedS r8.2 ((g 4), (g 5), (g 6)) r6.1 ∧ r10 = hevenedS r9.2 r5.2.1 ∧
  hmetS bad g l c y = ((guessF r8.1 r9.1 r10.1), r10.2) := by
 refine ⟨_, _, _, _, _, rfl, rfl, rfl, rfl, rfl, ?_⟩
 unfold hmetS
 exact rfl
end Go.Proofs.YtpjobkbefgehjaaGreat
namespace Go.Proofs.YtpjobkbefgehjaaGreat
open Go.RowKit
theorem units_good (b : Bool) (v : Nat → Int) : (hunitsS b v).2 = false ↔ b = false ∧ (vUnitS false ((v 0), (v 1), (v 2))).2 = false ∧ (vUnitS false ((v 3), (v 4), (v 5))).2 = false := by
 unfold hunitsS
 dsimp only
 constructor
 ·intro h
  obtain ⟨h1, h2⟩ := vUnit_a h
  obtain ⟨h3, h4⟩ := vUnit_a h1
  exact ⟨h3, h4, h2⟩
 ·rintro ⟨h1, h2, h3⟩
  rw [h1, h2]
  exact h3
theorem units_val {b : Bool} {v : Nat → Int} (h : (hunitsS b v).2 = false) : (hunitsS b v).1 = fpairP (vUnitS false ((v 0), (v 1), (v 2))).1 (vUnitS false ((v 3), (v 4), (v 5))).1 := by
 obtain ⟨h1, h2, h3⟩ := (units_good b v).1 h
 unfold hunitsS fpairP
 dsimp only
 rw [h1, h2]
def six6 (p : V6) : Nat → Int := fun i_ => if i_ = 0 then p.1 else if i_ = 1 then p.2.1 else if i_ = 2 then p.2.2.1 else if i_ = 3 then p.2.2.2.1 else if i_ = 4 then p.2.2.2.2.1 else p.2.2.2.2.2
theorem six6_A (a b : V3) : sA (six6 (fpairP a b)) = a := rfl
theorem six6_B (a b : V3) : sB (six6 (fpairP a b)) = b := rfl
theorem prod_off (x y : Nat → Int) (b : Bool) {e : Nat} (he : 36 ≤ e) : (hproductsS b x y).1 e = 0 := by
 rw [hproducts_is]
 exact (prod_fills x y b).rest e (fun k hk => by omega)
theorem less_off (p q : Nat → Int) (b : Bool) {e : Nat} (he : 6 ≤ e) : (hlessS b p q).1 e = p e := by
 rw [hless_is]
 exact (less_fills p q b).rest e (fun k hk => by omega)
theorem apply_none {b : Bool} {m p : Nat → Int} (h : (zApply6 b m p).2 = true) : (zApply6 b m p).1 = fun _ => 0 := by
 rw [← mApply6_eq, mApply_is] at h ⊢
 rw [soundR_flag] at h
 rw [h]
 rfl
theorem met_zero (g l c : Nat → Int) (z : (Nat → Int) × (Nat → Int) × Bool) : hmetS_l0 g l c z 0 = z := rfl
theorem met_flag (g l c : Nat → Int) (b : Bool) : (hmetS_l0 g l c ((fun _ => 0), (fun _ => 0), b) 6).2.2 = false ↔ b = false ∧ ∀ i, i < 6 → MetG g l c i := by
 have G := (met_k g l c b).good
 dsimp only at G
 rw [met_zero] at G
 dsimp only at G
 exact G
theorem even_a {b : Bool} {m : Nat → Int} (h : (hevenedS b m).2 = false) : b = false := ((even_good m b).1 h).1
theorem met_true (g l c y : Nat → Int) : (hmetS true g l c y).2 = true := by
 obtain ⟨r5, r6, r8, r9, r10, e5, e6, e8, e9, e10, eR⟩ := hmet_chain true g l c y
 rw [eR]
 dsimp only
 cases h : r10.2
 ·rw [e10] at h
  have h9 := even_a h
  rw [e9] at h9
  have h8 := (biased_a h9).1
  rw [e8] at h8
  have h6 := (turned_a h8).1
  rw [e6] at h6
  have h5 := (apply_a h6).1
  rw [e5, met_flag] at h5
  exact absurd h5.1 (by decide)
 ·rfl
theorem met_stage {g l c y : Nat → Int} {r18 : (Nat → Int) × (Nat → Int) × Bool} {r26 r25 r35 r36 r39 r41 : (Nat → Int) × Bool} {r43 r44 r45 : V4 × Bool} {r48 : V3 × Bool} (hc : r18.2.1 = c) (hl : r26.1 = l) (hy : r25.1 = y)
  (e35 : r35 = fMeetS_l5 r18 r26 ((fun _ => 0), false) 6) (e36 : r36 = zApply6 r35.2 r35.1 r25.1) (e39 : r39 = fMeetS_l2 g r18 r35 ((fun _ => 0), r36.2) 6) (e41 : r41 = fMeetS_l0 r39 ((fun _ => 0), r39.2) 6)
  (e43 : r43 = qFromRodS r41.2 (ffirstP r36.1)) (e44 : r44 = qMulS r43.2 r43.1 ((g 0), (g 1), (g 2), (g 3))) (e45 : r45 = qUnitS r44.2 r44.1) (e48 : r48 = vAddS r45.2 ((g 4), (g 5), (g 6)) (flastP r36.1)) :
  r48.2 = (hmetS false g l c y).2 ∧ (r48.2 = false → ∀ i, i < 43 → (hmetS false g l c y).1 i = (updF (updF (updF (updF (updF (updF (updF r41.1 0 r45.1.1) 1 r45.1.2.1) 2 r45.1.2.2.1) 3 r45.1.2.2.2) 4 r48.1.1) 5 r48.1.2.1) 6 r48.1.2.2) i) := by
 obtain ⟨m5, m6, m8, m9, m10, d5, d6, d8, d9, d10, dR⟩ := hmet_chain false g l c y
 have e45' : r45 = hturnedS r41.2 ((g 0), (g 1), (g 2), (g 3)) r36.1 := by rw [e45]; exact turned_is _ _ _ e43 e44
 have e48' : r48 = hbiasedS r45.2 ((g 4), (g 5), (g 6)) r36.1 := by rw [e48]; exact biased_is _ _ _
 rw [dR]
 dsimp only
 subst hc hl hy
 have K := k_ref r18 r26 false
 have T := t_ref g r18 r35 r36.2
 have E := even_ref r39 r39.2
 have CK := met_k g r26.1 r18.2.1 false
 have CT := met_t g r26.1 r18.2.1 false
 have CG := met_flag g r26.1 r18.2.1 false
 rw [← d5] at CG
 have CKv := CK.val
 have CKr := CK.rest
 have CTv := CT.val
 have CTr := CT.rest
 dsimp only at CKv CKr CTv CTr
 rw [met_zero] at CKr CTr
 rw [← d5] at CKv CKr CTv CTr
 dsimp only at CKr CTr
 -- rows of what is solved
 have rK : r35.2 = false → ∀ i, i < 6 → ∀ j, j < 6 → rowK r35.1 i j = (zSolve6 false r26.1 (rowK r18.2.1 i)).1 j := fun h i hi j hj => by
  rw [e35] at h ⊢
  have := K.val h i hi j hj
  rw [show 0 + i * 6 + j = i * 6 + j by omega] at this
  exact this
 have tK : r35.2 = false → ∀ i, i < 6 → ∀ j, tmS false (g (7 + i * 6 + j)) (rowK r35.1 i) (rowK r18.2.1 j) = tmS false (g (7 + i * 6 + j)) (zSolve6 false r26.1 (rowK r18.2.1 i)).1 (rowK r18.2.1 j) := fun h i hi j => tm_congr (fun k hk => rK h i hi k hk) false
 have sK : r35.2 = false ↔ ∀ i, i < 6 → (zSolve6 false r26.1 (rowK r18.2.1 i)).2 = false := by
  rw [e35]
  exact K.good.trans ⟨fun h => h.2, fun h => ⟨rfl, h⟩⟩
 have same : r35.2 = false → m5.2.2 = false → m5.1 = r35.1 := fun h h' => funext fun e => by
  by_cases he : e < 36
  ·obtain ⟨i, j, hi, hj, rfl⟩ : ∃ i j, i < 6 ∧ j < 6 ∧ e = i * 6 + j := ⟨e / 6, e % 6, by omega, by omega, by omega⟩
   have v1 := CKv h' i hi j hj
   rw [show 0 + i * 6 + j = i * 6 + j by omega] at v1
   rw [v1, ← rK h i hi j hj]
   rfl
  ·rw [CKr e (fun k hk => by omega), e35]
   exact (K.rest e (fun k hk => by omega)).symm
 have sameT : r35.2 = false → r39.2 = false → m5.2.2 = false → ∀ i, i < 6 → ∀ j, j < 6 → m5.2.1 (i * 6 + j) = r39.1 (i * 6 + j) := fun h h39 h' i hi j hj => by
  have v1 := CTv h' i hi j hj
  rw [show 0 + i * 6 + j = i * 6 + j by omega] at v1
  rw [e39] at h39
  have v2 := T.val h39 i hi j hj
  rw [show 0 + i * 6 + j = i * 6 + j by omega] at v2
  rw [v1, e39, v2, tK h i hi j]
 have fwd : r48.2 = false → m10.2 = false ∧ r35.2 = false ∧ r36.2 = false ∧ r39.2 = false ∧ r41.2 = false ∧ r45.2 = false ∧ m5.2.2 = false ∧ m6.2 = false ∧ m8.2 = false ∧ m6 = r36 := fun h => by
  rw [e48'] at h
  obtain ⟨h45, hB⟩ := biased_a h
  have h45' := h45
  rw [e45'] at h45'
  obtain ⟨h41, hT⟩ := turned_a h45'
  have h41' := h41
  rw [e41] at h41'
  obtain ⟨h39, hE⟩ := E.good.1 h41'
  have h39' := h39
  rw [show (fMeetS_l0 r39 ((fun _ => 0), r39.2) 0).2 = r39.2 from rfl, e39] at h39'
  obtain ⟨h36, hM⟩ := T.good.1 h39'
  have h36' : r36.2 = false := h36
  have h36'' := h36'
  rw [e36] at h36''
  obtain ⟨h35, hA⟩ := apply_a h36''
  have k5 : m5.2.2 = false := CG.2 ⟨rfl, fun i hi => ⟨sK.1 h35 i hi, fun j hj => by rw [← tK h35 i hi j]; exact hM i hi j hj⟩⟩
  have k6 : m6 = r36 := by rw [d6, e36, k5, h35, same h35 k5]
  have k6' : m6.2 = false := by rw [k6]; exact h36'
  have k8 : m8.2 = false := by rw [d8, k6', k6]; exact hT
  have k9 : m9.2 = false := by rw [d9, k8, k6]; exact hB
  have h39t : r39.2 = false := h39
  refine ⟨?_, h35, h36', h39t, h41, h45, k5, k6', k8, k6⟩
  rw [d10, even_good]
  refine ⟨k9, fun i hi j hj => ?_⟩
  rw [sameT h35 h39t k5 i hi j hj, sameT h35 h39t k5 j hj i hi]
  exact hE i hi j hj
 have bwd : m10.2 = false → r48.2 = false := fun h => by
  rw [d10, even_good] at h
  obtain ⟨h9, hE⟩ := h
  rw [d9] at h9
  obtain ⟨h8, hB⟩ := biased_a h9
  rw [d8] at h8
  obtain ⟨h6, hT⟩ := turned_a h8
  have h6' := h6
  rw [d6] at h6'
  obtain ⟨h5, hA⟩ := apply_a h6'
  have hG := (CG.1 h5).2
  have k35 : r35.2 = false := sK.2 (fun i hi => (hG i hi).k)
  have k6 : m6 = r36 := by rw [d6, e36, h5, k35, same k35 h5]
  have k36 : r36.2 = false := by rw [← k6]; exact h6
  have k39 : r39.2 = false := by
   rw [e39]
   exact T.good.2 ⟨k36, fun i hi j hj => by rw [tK k35 i hi j]; exact (hG i hi).t j hj⟩
  have k41 : r41.2 = false := by
   rw [e41]
   exact E.good.2 ⟨k39, fun i hi j hj => by rw [← sameT k35 k39 h5 i hi j hj, ← sameT k35 k39 h5 j hj i hi]; exact hE i hi j hj⟩
  have k45 : r45.2 = false := by rw [e45', k41, ← k6]; exact hT
  rw [e48', k45, ← k6]
  exact hB
 refine ⟨bool_eq ⟨fun h => (fwd h).1, bwd⟩, fun h i hi => ?_⟩
 obtain ⟨k10, h35, h36, h39, h41, h45, k5, k6', k8, k6⟩ := fwd h
 rw [upd7_cells]
 have x45 : r45.1 = m8.1 := by rw [e45', h41, d8, k6', k6]
 have x48 : r48.1 = m9.1 := by rw [e48', h45, d9, k8, k6]
 rw [x45, x48]
 refine guess_congr (fun e he => ?_) i hi
 revert e
 refine parts_split (fun e => m10.1 e = r41.1 (7 + e)) (fun i hi j hj => ?_)
 have k10' := k10
 rw [d10] at k10'
 have h41' := h41
 rw [e41] at h41'
 have v := E.val h41' i hi j hj
 rw [show 7 + i * 6 + j = 7 + (i * 6 + j) by omega] at v
 rw [d10, even_val k10' hi hj, e41, v, sameT h35 h39 k5 i hi j hj, sameT h35 h39 k5 j hj i hi]
end Go.Proofs.YtpjobkbefgehjaaGreat
namespace Go.Proofs.YtpjobkbefgehjaaGreat
open Go.RowKit
theorem root_none (m : Nat → Int) : zRoot6 true m = ((fun _ => 0), true) := rfl
theorem solve_none (l p : Nat → Int) : zSolve6 true l p = ((fun _ => 0), true) := rfl
theorem fPoints_i (b : Bool) (g : Nat → Int) : (fPointsS b g).2 = false ↔ b = false ∧ (hPointsS false g).2 = false := by
 rw [fPoints_flag]
 exact ⟨fun h => pts_a h, fun h => by rw [h.1]; exact h.2⟩
theorem s_same {x y t : Nat → Int} {b : Bool} {x' y' : Nat → Int} (h : (hproductsS b x y).2 = false) (hS : ∀ i, i < 6 → ∀ j, j < 6 → fproductsS false x i y j = fproductsS false x' i y' j)
  (V : ∀ k, k < 6 → ∀ j, j < 6 → t (0 + k * 6 + j) = (fproductsS false x' k y' j).1) (Z : ∀ i, (∀ k, k < 6 → i < 0 + k * 6 ∨ 0 + k * 6 + 6 ≤ i) → t i = 0) : ∀ e, (hproductsS b x y).1 e = t e := fun e => by
 by_cases he : e < 36
 ·obtain ⟨i, j, hi, hj, rfl⟩ : ∃ i j, i < 6 ∧ j < 6 ∧ e = i * 6 + j := ⟨e / 6, e % 6, by omega, by omega, by omega⟩
  have v := V i hi j hj
  rw [show 0 + i * 6 + j = i * 6 + j by omega] at v
  rw [prod_val h hi hj, v, hS i hi j hj]
 ·rw [prod_off _ _ _ (by omega), Z e (fun k hk => by omega)]
set_option maxHeartbeats 1000000 in
theorem meet_core (g sky body : Nat → Int) : (hMeetS false g sky body).2 = (fMeetS false g sky body).2 ∧ (hMeetS false g sky body).1.2 = (fMeetS false g sky body).1.2 ∧ ∀ i, i < 43 → (hMeetS false g sky body).1.1 i = (fMeetS false g sky body).1.1 i := by
 obtain ⟨r2, r3, r5, r6, r8, r11, r13, r14, r18, r22, r23, r25, r26, r28, r32, r35, r36, r39, r41, r42, r43, r44, r45, r47, r48, e2, e3, e5, e6, e8, e11, e13, e14, e18, e22, e23, e25, e26, e28, e32, e35, e36, e39, e41, e42, e43, e44, e45, e47, e48, eR⟩ := fMeet_chain false g sky body
 obtain ⟨c1, c3, c4, c5, c7, c9, c10, c12, c14, c15, c16, c17, c19, c20, c21, d1, d3, d4, d5, d7, d9, d10, d12, d14, d15, d16, d17, d19, d20, d21, dC⟩ := hMeet_chain false g sky body
 rw [eR, dC]
 clear eR dC
 rw [upd3_hi] at e5 e6
 rw [upd6_lo, upd6_hi] at e23
 rw [e42] at e43
 rw [e47] at e48
 -- units
 have u6 : r6.2 = false → ((vUnitS false ((sky 0), (sky 1), (sky 2))).2 = false ∧ (vUnitS false ((sky 3), (sky 4), (sky 5))).2 = false) ∧ ((vUnitS false ((body 0), (body 1), (body 2))).2 = false ∧ (vUnitS false ((body 3), (body 4), (body 5))).2 = false) ∧ r2 = vUnitS false ((sky 0), (sky 1), (sky 2)) ∧ r3 = vUnitS false ((body 0), (body 1), (body 2)) ∧ r5 = vUnitS false ((sky 3), (sky 4), (sky 5)) ∧ r6 = vUnitS false ((body 3), (body 4), (body 5)) := fun h => by
  have h6 := h
  rw [e6] at h6
  obtain ⟨h5, a6⟩ := vUnit_a h6
  have h5' := h5
  rw [e5] at h5'
  obtain ⟨h3, a5⟩ := vUnit_a h5'
  have h3' := h3
  rw [e3] at h3'
  obtain ⟨h2, a3⟩ := vUnit_a h3'
  have a2 := h2
  rw [e2] at a2
  exact ⟨⟨a2, a5⟩, ⟨a3, a6⟩, e2, by rw [e3, h2], by rw [e5, h3], by rw [e6, h5]⟩
 have u6' : (vUnitS false ((sky 0), (sky 1), (sky 2))).2 = false → (vUnitS false ((sky 3), (sky 4), (sky 5))).2 = false → ((vUnitS false ((body 0), (body 1), (body 2))).2 = false ∧ (vUnitS false ((body 3), (body 4), (body 5))).2 = false) → r6.2 = false := fun a2 a5 a => by
  have h2 : r2.2 = false := by rw [e2]; exact a2
  have h3 : r3.2 = false := by rw [e3, h2]; exact a.1
  have h5 : r5.2 = false := by rw [e5, h3]; exact a5
  rw [e6, h5]
  exact a.2
 generalize hH : ((vUnitS false ((body 0), (body 1), (body 2))).2 = false ∧ (vUnitS false ((body 3), (body 4), (body 5))).2 = false) = H at u6 u6'
 -- points
 have p8 : r8.2 = false ↔ r6.2 = false ∧ c1.2 = false := by rw [e8, d1]; exact fPoints_i r6.2 g
 have x8 : r8.2 = false → r8 = c1 := fun h => by
  obtain ⟨h6, h1⟩ := p8.1 h
  rw [d1] at h1
  rw [e8, d1, h6]
  exact fPoints_good h1
 -- views
 have F11 := view_ref g sky r2 r5 r8 r8.2
 have d4' : c4 = hviewedS c3.2 g c1.1 (six6 c3.1) := d4
 have s3 : c3.2 = false → sA (six6 c3.1) = (vUnitS false ((sky 0), (sky 1), (sky 2))).1 ∧ sB (six6 c3.1) = (vUnitS false ((sky 3), (sky 4), (sky 5))).1 := fun h => by
  rw [d3] at h
  rw [d3, units_val h]
  exact ⟨six6_A _ _, six6_B _ _⟩
 have A11 : Agr H 78 c4 r11 := by
  have to : r11.2 = false → c4.2 = false ∧ H ∧ r8.2 = false ∧ c3.2 = false := fun h => by
   rw [e11] at h
   obtain ⟨h8, hV⟩ := F11.good.1 h
   have h8' : r8.2 = false := h8
   obtain ⟨h6, h1⟩ := p8.1 h8'
   obtain ⟨⟨a2, a5⟩, a, x2, x3, x5, x6⟩ := u6 h6
   have k3 : c3.2 = false := by rw [d3]; exact (units_good _ _).2 ⟨h1, a2, a5⟩
   refine ⟨?_, a, h8', k3⟩
   rw [d4', view_good, (s3 k3).1, (s3 k3).2]
   refine ⟨k3, fun k hk => ?_⟩
   have := hV k hk
   rw [x8 h8', x2, x5] at this
   exact this
  refine ⟨⟨fun h => ⟨(to h).1, (to h).2.1⟩, fun h => ?_⟩, fun h e he => ?_⟩
  ·obtain ⟨h4, a⟩ := h
   rw [d4', view_good] at h4
   obtain ⟨h3, hV⟩ := h4
   have h3' := h3
   rw [d3] at h3'
   obtain ⟨h1, a2, a5⟩ := (units_good _ _).1 h3'
   have h6 := u6' a2 a5 a
   have h8 := p8.2 ⟨h6, h1⟩
   obtain ⟨_, _, x2, x3, x5, x6⟩ := u6 h6
   rw [e11]
   refine F11.good.2 ⟨h8, fun k hk => ?_⟩
   have := hV k hk
   rw [(s3 h3).1, (s3 h3).2] at this
   rw [x8 h8, x2, x5]
   exact this
  ·obtain ⟨k4, a, h8, k3⟩ := to h
   obtain ⟨h6, h1⟩ := p8.1 h8
   obtain ⟨_, _, x2, x3, x5, x6⟩ := u6 h6
   obtain ⟨k, i, hk, hi, rfl⟩ : ∃ k i, k < 13 ∧ i < 6 ∧ e = k * 6 + i := ⟨e / 6, e % 6, by omega, by omega, by omega⟩
   rw [e11] at h
   have v := F11.val h k hk i hi
   rw [show 0 + k * 6 + i = k * 6 + i by omega] at v
   rw [d4'] at k4
   rw [d4', view_val k4 hk hi, e11, v, (s3 k3).1, (s3 k3).2, x8 h8, x2, x5]
 have g11 : r11.2 = false → r8.2 = false := fun h => by rw [e11] at h; exact (F11.good.1 h).1
 -- the mean, and what is less it
 have F13 := mean_ref2 r11 r11.2
 have A13 : Agr H 6 c5 r13 := by rw [d5, e13]; exact mean_stage A11 rfl F13
 have g13 : r13.2 = false → r11.2 = false := fun h => by rw [e13] at h; exact (F13.good.1 h).1
 have A14 : Agr H 78 c7 r14 := by
  rw [d7, e14]
  exact less_stage A13 (fun h i hi => A11.cell (g13 h) i hi)
 have g14 : r14.2 = false → r13.2 = false := fun h => by rw [e14] at h; exact ((fless_good _ _ _).1 h).1
 have x14 : r14.2 = false → r8 = c1 := fun h => x8 (g11 (g13 (g14 h)))
 -- S and C
 obtain ⟨GS, VS, ZS, VC, ZC⟩ := both_all r8 r14 r14.2 6 (by omega)
 rw [← e18] at GS VS ZS VC ZC
 have R := raise_ref2 (r18.1, r18.2.2) 3 (by omega)
 rw [← e22] at R
 have RG := R.good
 have RL := R.lo
 have RH := R.hi
 have RZ := R.rest
 dsimp only at RG RL RH RZ
 have sS : r14.2 = false → ∀ i, i < 6 → ∀ j, j < 6 → fproductsS false c7.1 i c7.1 j = fproductsS false r14.1 i r14.1 j := fun h i hi j hj => prods_congr (A14.cell h) (A14.cell h) hi hj
 have sC : r14.2 = false → ∀ i, i < 6 → ∀ j, j < 6 → fproductsS false c1.1 i c7.1 j = fproductsS false r8.1 i r14.1 j := fun h i hi j hj => by
  rw [x14 h]
  exact prods_congr (fun _ _ => rfl) (A14.cell h) hi hj
 have v9 : r18.2.2 = false → c9.2 = false → ∀ e, c9.1 e = r18.1 e := fun h h9 => by
  rw [d9] at h9 ⊢
  exact s_same h9 (fun i hi j hj => sS (GS.1 h).1 i hi j hj) (VS h) ZS
 have f22 : r22.2 = false → c14.2 = false ∧ r18.2.2 = false ∧ r14.2 = false ∧ c9.2 = false ∧ c10.2 = false ∧ c12.2 = false ∧ H := fun h => by
  obtain ⟨h18, hR⟩ := RG.1 h
  have h18' : r18.2.2 = false := h18
  obtain ⟨h14, hP⟩ := GS.1 h18'
  obtain ⟨h7, a⟩ := A14.flag.1 h14
  have k9 : c9.2 = false := by
   rw [d9, prod_good]
   exact ⟨h7, fun i hi j hj => by rw [sS h14 i hi j hj]; exact (hP i hi j hj).1⟩
  have k10 : c10.2 = false := by
   rw [d10, raised_good]
   refine ⟨k9, fun i hi => ?_⟩
   rw [v9 h18' k9]
   by_cases h3 : i < 3
   ·rw [either_lo h3]; exact (hR i h3).1
   ·have := (hR (i - 3) (by omega)).2
    rw [show 21 + (i - 3) * 7 = i * 7 by omega] at this
    rw [either_hi (by omega)]; exact this
  have k12 : c12.2 = false := by
   rw [d12, prod_good]
   exact ⟨k10, fun i hi j hj => by rw [sC h14 i hi j hj]; exact (hP i hi j hj).2⟩
  refine ⟨?_, h18', h14, k9, k10, k12, a⟩
  have a' := a
  rw [← hH] at a'
  rw [d14, units_good]
  exact ⟨k12, a'⟩
 have b22 : c14.2 = false → r22.2 = false := fun h => by
  rw [d14, units_good] at h
  obtain ⟨h12, a⟩ := h
  rw [hH] at a
  rw [d12, prod_good] at h12
  obtain ⟨h10, hC⟩ := h12
  rw [d10, raised_good] at h10
  obtain ⟨h9, hA⟩ := h10
  have h9' := h9
  rw [d9, prod_good] at h9'
  obtain ⟨h7, hS⟩ := h9'
  have k14 := A14.flag.2 ⟨h7, a⟩
  have k18 : r18.2.2 = false := GS.2 ⟨k14, fun i hi j hj => ⟨by rw [← sS k14 i hi j hj]; exact hS i hi j hj, by rw [← sC k14 i hi j hj]; exact hC i hi j hj⟩⟩
  refine RG.2 ⟨k18, fun i hi => ⟨?_, ?_⟩⟩
  ·have := hA i (by omega)
   rw [v9 k18 h9, either_lo hi] at this
   exact this
  ·have := hA (i + 3) (by omega)
   rw [v9 k18 h9, either_hi (by omega), show (i + 3) * 7 = 21 + i * 7 by omega] at this
   exact this
 have w10 : r22.2 = false → c10.1 = r22.1 := fun h => funext fun e => by
  obtain ⟨k14, h18, h14, k9, k10, k12, a⟩ := f22 h
  have k10' := k10
  rw [d10] at k10'
  by_cases hd : ∃ i, i < 6 ∧ e = i * 7
  ·obtain ⟨i, hi, rfl⟩ := hd
   rw [d10, raised_val k10' hi, v9 h18 k9]
   by_cases h3 : i < 3
   ·rw [either_lo h3, RL h i h3]
   ·have := RH h (i - 3) (by omega)
    rw [show 21 + (i - 3) * 7 = i * 7 by omega] at this
    rw [either_hi (by omega), this]
  ·have hn : ∀ i, i < 6 → e ≠ i * 7 := fun i hi h => hd ⟨i, hi, h⟩
   rw [d10, raised_off _ _ _ _ hn, v9 h18 k9]
   exact (RZ e (fun i hi => ⟨hn i (by omega), fun h => hn (i + 3) (by omega) (by omega)⟩)).symm
 have w12 : r22.2 = false → c12.1 = r18.2.1 := fun h => by
  obtain ⟨k14, h18, h14, k9, k10, k12, a⟩ := f22 h
  rw [d12] at k12 ⊢
  exact funext (s_same k12 (fun i hi j hj => sC h14 i hi j hj) (VC h18) ZC)
 -- what is seen, less what was guessed
 have w15 : r22.2 = false → six6 c15 = six6 r23 := fun h => by
  obtain ⟨k14, h18, h14, k9, k10, k12, a⟩ := f22 h
  obtain ⟨h6, _⟩ := p8.1 (g11 (g13 (g14 h14)))
  obtain ⟨_, _, x2, x3, x5, x6⟩ := u6 h6
  rw [d14] at k14
  rw [d15, d14, e23, x3, x6]
  unfold hjoinedP
  rw [units_val k14]
 have d16' : c16 = hlessS c14.2 (six6 c15) c5.1 := d16
 have e25' : r25 = fMeetS_l7 r13 (six6 r23, r22.2) 6 := e25
 have F25 := less_ref2 (six6 r23) r13 r22.2
 have G25 := F25.good
 have V25 := F25.val
 have Z25 := F25.rest
 have z7 : fMeetS_l7 r13 (six6 r23, r22.2) 0 = (six6 r23, r22.2) := rfl
 rw [z7] at G25 Z25
 rw [← e25'] at G25 V25 Z25
 dsimp only at G25 Z25
 have y13 : r22.2 = false → ∀ i, i < 6 → c5.1 i = r13.1 i := fun h i hi => A13.cell (g14 (f22 h).2.2.1) i hi
 have b25 : r25.2 = false ↔ c16.2 = false := by
  rw [d16', less_good]
  refine G25.trans ⟨fun h => ?_, fun h => ?_⟩
  ·have h22 : r22.2 = false := h.1
   exact ⟨(f22 h22).1, fun i hi => by rw [w15 h22, y13 h22 i hi]; exact h.2 i hi⟩
  ·have h22 := b22 h.1
   exact ⟨h22, fun i hi => by rw [← w15 h22, ← y13 h22 i hi]; exact h.2 i hi⟩
 have g25 : r25.2 = false → r22.2 = false := fun h => (G25.1 h).1
 have w16 : r25.2 = false → c16.1 = r25.1 := fun h => funext fun e => by
  have h22 := g25 h
  have hc := b25.1 h
  by_cases he : e < 6
  ·have v := V25 h e he 0 (by omega)
   rw [show 0 + e * 1 + 0 = e by omega] at v
   rw [d16'] at hc
   rw [d16', less_val hc he, v, w15 h22, y13 h22 e he]
  ·rw [d16', less_off _ _ _ (by omega), w15 h22]
   exact (Z25 e (fun k hk => by omega)).symm
 have q25 : r25.2 = c16.2 := bool_eq b25
 -- the root, and what is solved by it
 have q26 : r26 = c17 := by
  rw [e26, d17, q25]
  cases h : c16.2
  ·exact congrArg (zRoot6 false) (w10 (g25 (by rw [q25]; exact h))).symm
  ·exact (root_none _).trans (root_none _).symm
 have g17 : c17.2 = false → r25.2 = false := fun h => by rw [d17] at h; rw [q25]; exact (root_a h).1
 have q28 : r28 = c19 := by
  rw [e28, d19, q26]
  cases h : c17.2
  ·exact congrArg (zSolve6 false c17.1) (w16 (g17 h)).symm
  ·exact (solve_none _ _).trans (solve_none _ _).symm
 have g19 : c19.2 = false → c17.2 = false := fun h => by rw [d19] at h; exact (solve_a h).1
 -- chi
 have e32' : r32 = msumS_l0 r25.1 r28.1 (0, r28.2) 6 := by rw [e32]; exact chi_ref r25 r28 _ 6
 have b32 : r32.2 = false ↔ c20.2 = false := by
  rw [d20, row_good, e32', q28]
  constructor
  ·intro h
   have h19 : c19.2 = false := by
    cases k : c19.2
    ·rfl
    ·rw [k, sum_bad rfl 6] at h; cases h
   rw [h19] at h
   rw [w16 (g17 (g19 h19))]
   exact ⟨h19, h⟩
  ·rintro ⟨h19, h⟩
   rw [h19, ← w16 (g17 (g19 h19))]
   exact h
 have g20 : c20.2 = false → c19.2 = false := fun h => by rw [d20] at h; exact (apply_a h).1
 cases h32 : r32.2
 ·have h20 := b32.1 h32
  have h19 := g20 h20
  have h17 := g19 h19
  have h25 := g17 h17
  have h22 := g25 h25
  have chi : c20.1 0 = r32.1 := by
   have h20' := h20
   rw [d20] at h20'
   rw [d20, row_val h20', e32', q28, h19, w16 h25]
  rw [if_neg (by decide : ¬ (false = true)), chi]
  by_cases hg : r32.1 > 32985348833280
  ·rw [if_pos hg, if_pos hg, h20]
   exact ⟨rfl, rfl, fun _ _ => rfl⟩
  ·rw [if_neg hg, if_neg hg]
   rw [h32] at e35
   obtain ⟨k1, k2⟩ := met_stage (g := g) (l := c17.1) (c := c12.1) (y := c16.1) (w12 h22).symm (by rw [q26]) (w16 h25).symm e35 e36 e39 e41 e43 e44 e45 e48
   have q21 : c21 = hmetS false g c17.1 c12.1 c16.1 := by rw [d21, h20]
   rw [← q21] at k1 k2
   cases h48 : r48.2
   ·rw [h48] at k1
    rw [← k1, if_neg (by decide : ¬ (false = true)), if_neg (by decide : ¬ (false = true))]
    exact ⟨rfl, rfl, fun i hi => k2 h48 i hi⟩
   ·rw [h48] at k1
    rw [← k1, if_pos rfl, if_pos rfl]
    exact ⟨rfl, rfl, fun _ _ => rfl⟩
 ·have h20 : c20.2 = true := by
   cases k : c20.2
   ·rw [b32.2 k] at h32; cases h32
   ·rfl
  have h20' := h20
  rw [d20] at h20'
  have chi : c20.1 0 = 0 := by rw [d20, apply_none h20']
  have h21 : c21.2 = true := by rw [d21, h20]; exact met_true _ _ _ _
  rw [chi, if_neg (by decide), h21, if_pos rfl, if_pos rfl]
  exact ⟨rfl, rfl, fun _ _ => rfl⟩
end Go.Proofs.YtpjobkbefgehjaaGreat
