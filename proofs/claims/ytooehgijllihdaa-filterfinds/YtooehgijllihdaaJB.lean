/- A part. -/
import Derived.Test.YtooehgijllihdaaJS
import Derived.Test.YtooehgijllihdaaJA
namespace Go.Proofs.Ytooehgijllihdaa
open Go.RowKit
theorem mul_swap (bad : Bool) (a b : Int) : mulS bad a b = mulS bad b a := by
 cases h : tk bad [a, b]
 ·rw [mulS_no h, mulS_no (by rw [← h]; cases bad <;> simp [tk, Bool.and_comm])]
 ·rw [mulS_yes h, mulS_yes (by rw [← h]; cases bad <;> simp [tk, Bool.and_comm]), Int.mul_comm (sz a)]
  cases decide (a < 0) <;> cases decide (b < 0) <;> rfl
theorem pt_true (a p q : Int) : partS true a p q = (0, true) := partS_no (tk_true _)
theorem qMul_true (p q : V4) : (qMulS true p q).2 = true := by
 unfold qMulS
 simp [vScale_true, vAdd_true, vCross_true, mulS_true, vDot_true, subS_true, sound4S_yes]
theorem qTurn_true (q : V4) (v : V3) : (qTurnS true q v).2 = true := by
 unfold qTurnS
 simp [vScale_true, vAdd_true, vCross_true, vSub_true]
theorem qFrom_true (p : V3) : (qFromRodS true p).2 = true := by
 unfold qFromRodS
 simp [vDot_true, addS_true, mulS_true, divS_true, subS_true, qUnit_true]
theorem ahead {α : Type} {b : Bool} {X : Bool → α × Bool} (hX : (X true).2 = true) (h : (X b).2 = false) : b = false ∧ (X false).2 = false := by
 cases b
 ·exact ⟨rfl, h⟩
 ·rw [hX] at h; cases h
theorem add_a {b : Bool} {x y : Int} (h : (addS b x y).2 = false) : b = false ∧ (addS false x y).2 = false := ahead (X := fun b => addS b x y) (by rw [addS_true]) h
theorem sub_a {b : Bool} {x y : Int} (h : (subS b x y).2 = false) : b = false ∧ (subS false x y).2 = false := ahead (X := fun b => subS b x y) (by rw [subS_true]) h
theorem mul_a {b : Bool} {x y : Int} (h : (mulS b x y).2 = false) : b = false ∧ (mulS false x y).2 = false := ahead (X := fun b => mulS b x y) (by rw [mulS_true]) h
theorem solve_a {b : Bool} {l p : Nat → Int} (h : (zSolve6 b l p).2 = false) : b = false ∧ (zSolve6 false l p).2 = false := ahead (X := fun b => zSolve6 b l p) rfl h
theorem eta2 {α β : Type} (t : α × β) : (t.1, t.2) = t := rfl
theorem updF_at (g : Nat → Int) (o : Nat) (v : Int) : updF g o v o = v := by unfold updF; rw [if_pos rfl]
theorem updF_off (g : Nat → Int) {o i : Nat} (v : Int) (h : i ≠ o) : updF g o v i = g i := by unfold updF; rw [if_neg h]
structure Fills (L : Nat → (Nat → Int) × Bool) (G : Nat → Prop) (v : Nat → Nat → Int) (o T W m : Nat) : Prop where
 good : (L m).2 = false ↔ (L 0).2 = false ∧ ∀ k, k < m → G k
 val : (L m).2 = false → ∀ k, k < m → ∀ j, j < W → (L m).1 (o + k * T + j) = v k j
 rest : ∀ i, (∀ k, k < m → i < o + k * T ∨ o + k * T + W ≤ i) → (L m).1 i = (L 0).1 i
theorem fills {L : Nat → (Nat → Int) × Bool} {G : Nat → Prop} {v : Nat → Nat → Int} {o T W n : Nat} (hT : W ≤ T)
  (hs : ∀ k, k < n → ∀ s : (Nat → Int) × Bool, s = L k → (∀ j, j < W → s.1 (o + k * T + j) = (L 0).1 (o + k * T + j)) →
   ((L (k + 1)).2 = false ↔ s.2 = false ∧ G k) ∧ ((L (k + 1)).2 = false → ∀ j, j < W → (L (k + 1)).1 (o + k * T + j) = v k j) ∧ ∀ i, (i < o + k * T ∨ o + k * T + W ≤ i) → (L (k + 1)).1 i = s.1 i) :
  ∀ m, m ≤ n → Fills L G v o T W m
 | 0, _ => ⟨⟨fun h => ⟨h, fun k hk => absurd hk (Nat.not_lt_zero k)⟩, fun h => h.1⟩, fun _ k hk => absurd hk (Nat.not_lt_zero k), fun _ _ => rfl⟩
 | m + 1, hm => by
  have ih := fills hT hs m (by omega)
  have far : ∀ k, k < m → o + k * T + W ≤ o + m * T := fun k hk => by
   have : (k + 1) * T ≤ m * T := Nat.mul_le_mul_right T hk
   rw [Nat.succ_mul] at this
   omega
  obtain ⟨s1, s2, s3⟩ := hs m (by omega) (L m) rfl (fun j hj => ih.rest _ (fun k hk => Or.inr (by have := far k hk; omega)))
  refine ⟨⟨fun h => ?_, fun h => ?_⟩, fun h k hk j hj => ?_, fun i hi => ?_⟩
  ·obtain ⟨e, g⟩ := s1.1 h
   obtain ⟨z, r⟩ := ih.good.1 e
   exact ⟨z, fun k hk => by
    rcases Nat.lt_succ_iff_lt_or_eq.1 hk with hk | rfl
    ·exact r k hk
    ·exact g⟩
  ·exact s1.2 ⟨ih.good.2 ⟨h.1, fun k hk => h.2 k (by omega)⟩, h.2 m (by omega)⟩
  ·obtain ⟨e, g⟩ := s1.1 h
   rcases Nat.lt_succ_iff_lt_or_eq.1 hk with hk | rfl
   ·rw [s3 _ (Or.inl (by have := far k hk; omega))]
    exact ih.val e k hk j hj
   ·exact s2 h j hj
  ·rw [s3 i (hi m (by omega))]
   exact ih.rest i (fun k hk => hi k (by omega))
theorem one_step {X : Bool → Int × Bool} (hX : (X true).2 = true) (b : Bool) : (X b).2 = false ↔ b = false ∧ (X false).2 = false :=
 ⟨fun h => ahead hX h, fun h => by rw [h.1]; exact h.2⟩
theorem one_val {X : Bool → Int × Bool} (hX : (X true).2 = true) {b : Bool} (h : (X b).2 = false) : (X b).1 = (X false).1 := by rw [(ahead hX h).1]
theorem add_twice (b : Bool) (x : Int) : addS (addS b 0 x).2 (addS b 0 x).1 x = addS b x x := by
 cases b
 ·cases hx : numB x
  ·have e1 : addS false 0 x = (0, true) := by unfold addS tk; simp [hx]
   have e2 : addS false x x = (0, true) := by unfold addS tk; simp [hx]
   rw [e1, e2, addS_true]
  ·have e1 : addS false 0 x = (x, false) := by
    unfold addS tk gv
    have h0 : numB 0 = true := by decide
    simp [hx, h0]
   rw [e1]
 ·rw [addS_true, addS_true, addS_true]
theorem mid_l0 {x col : Nat → Int} {i : Nat} (hc : ∀ k, k < 13 → col k = x (k * 6 + i)) (b : Bool) : ∀ k, k ≤ 12 →
  hmiddleS_l0 col (col 0, b) (k + 1) = fmeanS_l0 x i ((addS (addS b 0 (x i)).2 (addS b 0 (x i)).1 (x i)).1, (addS (addS b 0 (x i)).2 (addS b 0 (x i)).1 (x i)).2) k
 | 0, _ => by
  have h0 : col 0 = x i := by rw [hc 0 (by omega)]; congr 1; omega
  show hmiddleS_l0s col 0 (col 0, b) = _
  unfold hmiddleS_l0s fmeanS_l0
  dsimp only
  rw [h0, add_twice]
 | k + 1, hk => by
  have ih := mid_l0 hc b k (by omega)
  show hmiddleS_l0s col (k + 1) (hmiddleS_l0 col (col 0, b) (k + 1)) = fmeanS_l0s x i k _
  rw [ih]
  unfold hmiddleS_l0s fmeanS_l0s
  dsimp only
  rw [hc (k + 1) (by omega)]
theorem mid_eq {x col : Nat → Int} {i : Nat} (hc : ∀ k, k < 13 → col k = x (k * 6 + i)) (b : Bool) : hmiddleS b col = fmeanS b x i := by
 unfold hmiddleS fmeanS
 dsimp only
 rw [mid_l0 hc b 12 (by omega)]
theorem mean_true (x : Nat → Int) (i : Nat) : (fmeanS true x i).2 = true := by
 have : ∀ (z : Int × Bool) (hz : z.2 = true) (k : Nat), (fmeanS_l0 x i z k).2 = true := fun z hz k => by
  induction k with
  | zero => exact hz
  | succ k ih => rw [fmeanS_l0_succ]; unfold fmeanS_l0s; dsimp only; rw [ih, addS_true]
 unfold fmeanS
 dsimp only
 rw [addS_true, this _ (by rw [addS_true]), pt_true]
theorem col_is (x : Nat → Int) (i : Nat) : ∀ n k, k < n → hmeanS_l1 x i (fun _ => 0) n k = x (k * 6 + i)
 | n + 1, k, hk => by
  rw [hmeanS_l1_succ]
  unfold hmeanS_l1s
  by_cases e : k = n
  ·subst e; rw [updF_at]
  ·rw [updF_off _ _ e]; exact col_is x i n k (by omega)
theorem mean_fills (x : Nat → Int) (b : Bool) : Fills (hmeanS_l0 x ((fun _ => 0), b)) (fun i => (fmeanS false x i).2 = false) (fun i _ => (fmeanS false x i).1) 0 1 1 6 := by
 refine fills (n := 6) (by omega) (fun k hk s hs _ => ?_) 6 (by omega)
 rw [hmeanS_l0_succ, ← hs]
 unfold hmeanS_l0s
 dsimp only
 rw [mid_eq (x := x) (i := k) (fun c hc => col_is x k 13 c hc)]
 have hX := mean_true x k
 refine ⟨one_step (X := fun b => fmeanS b x k) hX s.2, fun h j hj => ?_, fun i hi => updF_off _ _ (by omega)⟩
 obtain rfl : j = 0 := by omega
 rw [show 0 + k * 1 + 0 = k by omega, updF_at]
 exact one_val (X := fun b => fmeanS b x k) hX h
theorem prod_l2 (x y : Nat → Int) (i j : Nat) (b : Bool) : ∀ n, (hproductsS_l2 x y i j ((fun _ => 0), b) n).2 = (fproductsS_l0 x i y j ((fun _ => 0), b) n).2 ∧
  ∀ k, k < n → (hproductsS_l2 x y i j ((fun _ => 0), b) n).1 k = (fproductsS_l0 x i y j ((fun _ => 0), b) n).1 (k * 6)
 | 0 => ⟨rfl, fun k hk => absurd hk (Nat.not_lt_zero k)⟩
 | n + 1 => by
  obtain ⟨h1, h2⟩ := prod_l2 x y i j b n
  rw [hproductsS_l2_succ, fproductsS_l0_succ]
  unfold hproductsS_l2s fproductsS_l0s
  dsimp only
  rw [h1]
  refine ⟨rfl, fun k hk => ?_⟩
  by_cases e : k = n
  ·subst e; rw [updF_at, updF_at]
  ·rw [updF_off _ _ e, updF_off _ _ (by omega)]; exact h2 k (by omega)
theorem prod_eq (x y : Nat → Int) (i j : Nat) (b : Bool) : hmiddleS (hproductsS_l2 x y i j ((fun _ => 0), b) 13).2 (hproductsS_l2 x y i j ((fun _ => 0), b) 13).1 = fproductsS b x i y j := by
 obtain ⟨h1, h2⟩ := prod_l2 x y i j b 13
 unfold fproductsS
 dsimp only
 rw [h1, mid_eq (x := (fproductsS_l0 x i y j ((fun _ => 0), b) 13).1) (i := 0) (fun k hk => by rw [h2 k hk]; rfl)]
theorem prod_true (x y : Nat → Int) (i j : Nat) : (fproductsS true x i y j).2 = true := by
 have : ∀ k, (fproductsS_l0 x i y j ((fun _ => 0), true) k).2 = true := fun k => by
  induction k with
  | zero => rfl
  | succ k ih => rw [fproductsS_l0_succ]; unfold fproductsS_l0s; dsimp only; rw [ih, mulS_true]
 unfold fproductsS
 dsimp only
 rw [this, mean_true]
theorem prod_comm (x : Nat → Int) (i j : Nat) (b : Bool) : fproductsS b x i x j = fproductsS b x j x i := by
 have : ∀ n, fproductsS_l0 x i x j ((fun _ => 0), b) n = fproductsS_l0 x j x i ((fun _ => 0), b) n := fun n => by
  induction n with
  | zero => rfl
  | succ n ih =>
   rw [fproductsS_l0_succ, fproductsS_l0_succ, ih]
   unfold fproductsS_l0s
   rw [mul_swap]
 unfold fproductsS
 rw [this 13]
theorem prod_row (x y : Nat → Int) (i : Nat) (z : (Nat → Int) × Bool) : Fills (hproductsS_l1 x y i z) (fun j => (fproductsS false x i y j).2 = false) (fun j _ => (fproductsS false x i y j).1) (i * 6) 1 1 6 := by
 refine fills (n := 6) (by omega) (fun j hj s hs _ => ?_) 6 (by omega)
 rw [hproductsS_l1_succ, ← hs]
 unfold hproductsS_l1s
 dsimp only
 rw [prod_eq]
 have hX := prod_true x y i j
 refine ⟨one_step (X := fun b => fproductsS b x i y j) hX s.2, fun h c hc => ?_, fun e he => updF_off _ _ (by omega)⟩
 obtain rfl : c = 0 := by omega
 rw [show i * 6 + j * 1 + 0 = i * 6 + j by omega, updF_at]
 exact one_val (X := fun b => fproductsS b x i y j) hX h
theorem prod_fills (x y : Nat → Int) (b : Bool) : Fills (hproductsS_l0 x y ((fun _ => 0), b)) (fun i => ∀ j, j < 6 → (fproductsS false x i y j).2 = false) (fun i j => (fproductsS false x i y j).1) 0 6 6 6 := by
 refine fills (n := 6) (by omega) (fun i hi s hs _ => ?_) 6 (by omega)
 rw [hproductsS_l0_succ, ← hs]
 unfold hproductsS_l0s
 dsimp only
 have F := prod_row x y i (s.1, s.2)
 refine ⟨F.good, fun h j hj => ?_, fun e he => F.rest e (fun k hk => by omega)⟩
 have := F.val h j hj 0 (by omega)
 rw [show i * 6 + j * 1 + 0 = 0 + i * 6 + j by omega] at this
 exact this
theorem hproducts_is (b : Bool) (x y : Nat → Int) : hproductsS b x y = hproductsS_l0 x y ((fun _ => 0), b) 6 := by
 unfold hproductsS
 exact eta2 _
theorem prod_good (x y : Nat → Int) (b : Bool) : (hproductsS b x y).2 = false ↔ b = false ∧ ∀ i, i < 6 → ∀ j, j < 6 → (fproductsS false x i y j).2 = false := by
 rw [hproducts_is]
 exact (prod_fills x y b).good
theorem prod_val {x y : Nat → Int} {b : Bool} (h : (hproductsS b x y).2 = false) {i j : Nat} (hi : i < 6) (hj : j < 6) : (hproductsS b x y).1 (i * 6 + j) = (fproductsS false x i y j).1 := by
 rw [hproducts_is] at h ⊢
 have := (prod_fills x y b).val h i hi j hj
 rw [show 0 + i * 6 + j = i * 6 + j by omega] at this
 exact this
theorem hmean_is (b : Bool) (x : Nat → Int) : hmeanS b x = hmeanS_l0 x ((fun _ => 0), b) 6 := by
 unfold hmeanS
 exact eta2 _
theorem mean_good (x : Nat → Int) (b : Bool) : (hmeanS b x).2 = false ↔ b = false ∧ ∀ i, i < 6 → (fmeanS false x i).2 = false := by
 rw [hmean_is]
 exact (mean_fills x b).good
theorem mean_val {x : Nat → Int} {b : Bool} (h : (hmeanS b x).2 = false) {i : Nat} (hi : i < 6) : (hmeanS b x).1 i = (fmeanS false x i).1 := by
 rw [hmean_is] at h ⊢
 have := (mean_fills x b).val h i hi 0 (by omega)
 rw [show 0 + i * 1 + 0 = i by omega] at this
 exact this
theorem less_fills (p q : Nat → Int) (b : Bool) : Fills (hlessS_l0 q (p, b)) (fun i => (subS false (p i) (q i)).2 = false) (fun i _ => (subS false (p i) (q i)).1) 0 1 1 6 := by
 refine fills (n := 6) (by omega) (fun i hi s hs ho => ?_) 6 (by omega)
 have h0 := ho 0 (by omega)
 rw [show 0 + i * 1 + 0 = i by omega] at h0
 rw [hlessS_l0_succ, ← hs]
 unfold hlessS_l0s
 dsimp only
 rw [show s.1 i = p i from h0]
 have hX : (subS true (p i) (q i)).2 = true := by rw [subS_true]
 refine ⟨one_step (X := fun b => subS b (p i) (q i)) hX s.2, fun h c hc => ?_, fun e he => updF_off _ _ (by omega)⟩
 obtain rfl : c = 0 := by omega
 rw [show 0 + i * 1 + 0 = i by omega, updF_at]
 exact one_val (X := fun b => subS b (p i) (q i)) hX h
theorem hless_is (b : Bool) (p q : Nat → Int) : hlessS b p q = hlessS_l0 q (p, b) 6 := by
 unfold hlessS
 exact eta2 _
theorem less_good (p q : Nat → Int) (b : Bool) : (hlessS b p q).2 = false ↔ b = false ∧ ∀ i, i < 6 → (subS false (p i) (q i)).2 = false := by
 rw [hless_is]
 exact (less_fills p q b).good
theorem less_val {p q : Nat → Int} {b : Bool} (h : (hlessS b p q).2 = false) {i : Nat} (hi : i < 6) : (hlessS b p q).1 i = (subS false (p i) (q i)).1 := by
 rw [hless_is] at h ⊢
 have := (less_fills p q b).val h i hi 0 (by omega)
 rw [show 0 + i * 1 + 0 = i by omega] at this
 exact this
def put6 (g : Nat → Int) (o : Nat) (v : Nat → Int) : Nat → Int := updF (updF (updF (updF (updF (updF g o (v 0)) (o + 1) (v 1)) (o + 2) (v 2)) (o + 3) (v 3)) (o + 4) (v 4)) (o + 5) (v 5)
theorem put6_at (g : Nat → Int) (o : Nat) (v : Nat → Int) {j : Nat} (hj : j < 6) : put6 g o v (o + j) = v j := by
 unfold put6 updF
 have : j = 0 ∨ j = 1 ∨ j = 2 ∨ j = 3 ∨ j = 4 ∨ j = 5 := by omega
 rcases this with rfl | rfl | rfl | rfl | rfl | rfl <;> simp
theorem put6_off (g : Nat → Int) (o : Nat) (v : Nat → Int) {i : Nat} (hi : i < o ∨ o + 6 ≤ i) : put6 g o v i = g i := by
 unfold put6 updF
 rw [if_neg (by omega), if_neg (by omega), if_neg (by omega), if_neg (by omega), if_neg (by omega), if_neg (by omega)]
theorem beside_fills (x m : Nat → Int) (b : Bool) : Fills (hbesideS_l0 m (x, b)) (fun k => ∀ i, i < 6 → (subS false (x (k * 6 + i)) (m i)).2 = false) (fun k i => (subS false (x (k * 6 + i)) (m i)).1) 0 6 6 13 := by
 refine fills (n := 13) (by omega) (fun k hk s hs ho => ?_) 13 (by omega)
 rw [hbesideS_l0_succ, ← hs]
 have e : ∀ i, i < 6 → s.1 (k * 6 + i) = x (k * 6 + i) := fun i hi => by
  have := ho i hi
  rw [show 0 + k * 6 + i = k * 6 + i by omega] at this
  exact this
 show ((hlessS s.2 (fun x_ => s.1 (k * 6 + x_)) m).2 = false ↔ _) ∧ ((hlessS s.2 (fun x_ => s.1 (k * 6 + x_)) m).2 = false → ∀ j, j < 6 → put6 s.1 (k * 6) (hlessS s.2 (fun x_ => s.1 (k * 6 + x_)) m).1 (0 + k * 6 + j) = _) ∧ ∀ i, _ → put6 s.1 (k * 6) (hlessS s.2 (fun x_ => s.1 (k * 6 + x_)) m).1 i = s.1 i
 refine ⟨?_, fun h j hj => ?_, fun i hi => put6_off _ _ _ (by omega)⟩
 ·rw [less_good]
  constructor
  ·rintro ⟨h, g⟩
   exact ⟨h, fun i hi => by rw [← e i hi]; exact g i hi⟩
  ·rintro ⟨h, g⟩
   exact ⟨h, fun i hi => by rw [e i hi]; exact g i hi⟩
 ·rw [show 0 + k * 6 + j = k * 6 + j by omega, put6_at _ _ _ hj, less_val h hj, e j hj]
theorem hbeside_is (b : Bool) (x m : Nat → Int) : hbesideS b x m = hbesideS_l0 m (x, b) 13 := by
 unfold hbesideS
 exact eta2 _
theorem beside_good (x m : Nat → Int) (b : Bool) : (hbesideS b x m).2 = false ↔ b = false ∧ ∀ k, k < 13 → ∀ i, i < 6 → (subS false (x (k * 6 + i)) (m i)).2 = false := by
 rw [hbeside_is]
 exact (beside_fills x m b).good
theorem beside_val {x m : Nat → Int} {b : Bool} (h : (hbesideS b x m).2 = false) {k i : Nat} (hk : k < 13) (hi : i < 6) : (hbesideS b x m).1 (k * 6 + i) = (subS false (x (k * 6 + i)) (m i)).1 := by
 rw [hbeside_is] at h ⊢
 have := (beside_fills x m b).val h k hk i hi
 rw [show 0 + k * 6 + i = k * 6 + i by omega] at this
 exact this
end Go.Proofs.Ytooehgijllihdaa
namespace Go.Proofs.Ytooehgijllihdaa
open Go.RowKit
def c4 (q : V4) : Nat → Int := fun j => if j = 0 then q.1 else if j = 1 then q.2.1 else if j = 2 then q.2.2.1 else q.2.2.2
def c3 (q : V3) : Nat → Int := fun j => if j = 0 then q.1 else if j = 1 then q.2.1 else q.2.2
def q4 (y : Nat → Int) (o : Nat) : V4 := (y o, y (o + 1), y (o + 2), y (o + 3))
theorem q4_c4 {y : Nat → Int} {o : Nat} {q : V4} (h : ∀ j, j < 4 → y (o + j) = c4 q j) : q4 y o = q := by
 unfold q4
 rw [show y o = c4 q 0 from h 0 (by omega), h 1 (by omega), h 2 (by omega), h 3 (by omega)]
 rfl
def put4 (g : Nat → Int) (o : Nat) (q : V4) : Nat → Int := updF (updF (updF (updF g o q.1) (o + 1) q.2.1) (o + 2) q.2.2.1) (o + 3) q.2.2.2
theorem put4_at (g : Nat → Int) (o : Nat) (q : V4) {j : Nat} (hj : j < 4) : put4 g o q (o + j) = c4 q j := by
 unfold put4 updF c4
 have : j = 0 ∨ j = 1 ∨ j = 2 ∨ j = 3 := by omega
 rcases this with rfl | rfl | rfl | rfl <;> simp
theorem put4_off (g : Nat → Int) (o : Nat) (q : V4) {i : Nat} (hi : i < o ∨ o + 4 ≤ i) : put4 g o q i = g i := by
 unfold put4 updF
 rw [if_neg (by omega), if_neg (by omega), if_neg (by omega), if_neg (by omega)]
def rowK (x : Nat → Int) (k : Nat) : Nat → Int := fun x_ => x (k * 6 + x_)
theorem att_true (g r : Nat → Int) : (fattitudeS true g r).2 = true := by
 unfold fattitudeS
 dsimp only
 rw [qFrom_true, qMul_true]
theorem att_a {b : Bool} {g r : Nat → Int} (h : (fattitudeS b g r).2 = false) : b = false ∧ (fattitudeS false g r).2 = false := ahead (X := fun b => fattitudeS b g r) (att_true g r) h
theorem att_fills (g x : Nat → Int) (b : Bool) : Fills (hattitudesS_l0 g x ((fun _ => 0), b)) (fun k => (fattitudeS false g (rowK x k)).2 = false) (fun k => c4 (fattitudeS false g (rowK x k)).1) 0 4 4 13 := by
 refine fills (n := 13) (by omega) (fun k hk s hs _ => ?_) 13 (by omega)
 rw [hattitudesS_l0_succ, ← hs]
 have e : hattitudesS_l0s g x k s = (put4 s.1 (k * 4) (fattitudeS s.2 g (rowK x k)).1, (fattitudeS s.2 g (rowK x k)).2) := by
  simp only [hattitudesS_l0s, fattitudeS, put4, hpartedP, ffirstP, rowK]
 rw [e]
 dsimp only
 refine ⟨⟨fun h => att_a h, fun h => by rw [h.1]; exact h.2⟩, fun h j hj => ?_, fun i hi => put4_off _ _ _ (by omega)⟩
 rw [show 0 + k * 4 + j = k * 4 + j by omega, put4_at _ _ _ hj, (att_a h).1]
theorem hatt_is (b : Bool) (g x : Nat → Int) : hattitudesS b g x = hattitudesS_l0 g x ((fun _ => 0), b) 13 := by
 unfold hattitudesS
 exact eta2 _
theorem att_good (g x : Nat → Int) (b : Bool) : (hattitudesS b g x).2 = false ↔ b = false ∧ ∀ k, k < 13 → (fattitudeS false g (rowK x k)).2 = false := by
 rw [hatt_is]
 exact (att_fills g x b).good
theorem att_val {g x : Nat → Int} {b : Bool} (h : (hattitudesS b g x).2 = false) {k : Nat} (hk : k < 13) : q4 (hattitudesS b g x).1 (k * 4) = (fattitudeS false g (rowK x k)).1 := by
 rw [hatt_is] at h ⊢
 refine q4_c4 (fun j hj => ?_)
 have := (att_fills g x b).val h k hk j hj
 rw [show 0 + k * 4 + j = k * 4 + j by omega] at this
 exact this
def eS (b : Bool) (y r : V4) : V3 × Bool := let p2 := qMulS b y (qBackS r); let p3 := qToRodS p2.2 p2.1; (p3.1, p3.2)
def wS (b : Bool) (a : V4) (s t : V3) : (V3 × V3) × Bool := let p2 := qTurnS b a s; let p3 := qTurnS p2.2 a t; ((p2.1, p3.1), p3.2)
theorem w_true (a : V4) (s t : V3) : (wS true a s t).2 = true := by
 unfold wS
 dsimp only
 rw [qTurn_true, qTurn_true]
theorem w_a {b : Bool} {a : V4} {s t : V3} (h : (wS b a s t).2 = false) : b = false ∧ (wS false a s t).2 = false := ahead (X := fun b => wS b a s t) (w_true a s t) h
def c33 (p : V3 × V3) : Nat → Int := fun j => if j < 3 then c3 p.1 j else c3 p.2 (j - 3)
def sA (y : Nat → Int) : V3 := (y 0, y 1, y 2)
def sB (y : Nat → Int) : V3 := (y 3, y 4, y 5)
theorem view_fills (sky : Nat → Int) (r1 : (Nat → Int) × Bool) (b : Bool) : Fills (hviewedS_l0 sky r1 ((fun _ => 0), b)) (fun k => (wS false (q4 r1.1 (k * 4)) (sA sky) (sB sky)).2 = false) (fun k => c33 (wS false (q4 r1.1 (k * 4)) (sA sky) (sB sky)).1) 0 6 6 13 := by
 refine fills (n := 13) (by omega) (fun k hk s hs _ => ?_) 13 (by omega)
 rw [hviewedS_l0_succ, ← hs]
 have e : hviewedS_l0s sky r1 k s = (put6 s.1 (k * 6) (c33 (wS s.2 (q4 r1.1 (k * 4)) (sA sky) (sB sky)).1), (wS s.2 (q4 r1.1 (k * 4)) (sA sky) (sB sky)).2) := by
  simp only [hviewedS_l0s, wS, put6, hjoinedP, q4, c33, c3, sA, sB]
  rfl
 rw [e]
 dsimp only
 refine ⟨⟨fun h => w_a h, fun h => by rw [h.1]; exact h.2⟩, fun h j hj => ?_, fun i hi => put6_off _ _ _ (by omega)⟩
 rw [show 0 + k * 6 + j = k * 6 + j by omega, put6_at _ _ _ hj, (w_a h).1]
theorem view_zero (sky : Nat → Int) (r1 z : (Nat → Int) × Bool) : hviewedS_l0 sky r1 z 0 = z := rfl
theorem hview_is (b : Bool) (g x sky : Nat → Int) : hviewedS b g x sky = hviewedS_l0 sky (hattitudesS b g x) ((fun _ => 0), (hattitudesS b g x).2) 13 := by
 unfold hviewedS
 exact eta2 _
structure ViewG (g x : Nat → Int) (s t : V3) (k : Nat) : Prop where
 a : (fattitudeS false g (rowK x k)).2 = false
 w : (wS false (fattitudeS false g (rowK x k)).1 s t).2 = false
theorem view_good (g x sky : Nat → Int) (b : Bool) : (hviewedS b g x sky).2 = false ↔ b = false ∧ ∀ k, k < 13 → ViewG g x (sA sky) (sB sky) k := by
 rw [hview_is]
 constructor
 ·intro h
  obtain ⟨h1, h2⟩ := (view_fills sky _ _).good.1 h
  rw [view_zero] at h1
  have ea := h1
  dsimp only at ea
  obtain ⟨eb, h4⟩ := (att_good g x b).1 ea
  refine ⟨eb, fun k hk => ⟨h4 k hk, ?_⟩⟩
  have h5 := h2 k hk
  rw [att_val ea hk] at h5
  exact h5
 ·rintro ⟨eb, h4⟩
  have ea := (att_good g x b).2 ⟨eb, fun k hk => (h4 k hk).a⟩
  refine (view_fills sky _ _).good.2 ⟨by rw [view_zero]; dsimp only; exact ea, fun k hk => ?_⟩
  rw [att_val ea hk]
  exact (h4 k hk).w
theorem view_val {g x sky : Nat → Int} {b : Bool} (h : (hviewedS b g x sky).2 = false) {k j : Nat} (hk : k < 13) (hj : j < 6) : (hviewedS b g x sky).1 (k * 6 + j) = c33 (wS false (fattitudeS false g (rowK x k)).1 (sA sky) (sB sky)).1 j := by
 rw [hview_is] at h ⊢
 have ea := ((view_fills sky _ _).good.1 h).1
 rw [view_zero] at ea
 dsimp only at ea
 have := (view_fills sky _ _).val h k hk j hj
 rw [show 0 + k * 6 + j = k * 6 + j by omega] at this
 rw [this, att_val ea hk]
theorem raised_fills (m : Nat → Int) (p q : Int) (b : Bool) : Fills (hraisedS_l0 p q (m, b)) (fun i => (addS false (m (i * 7)) (heitherP i p q)).2 = false) (fun i _ => (addS false (m (i * 7)) (heitherP i p q)).1) 0 7 1 6 := by
 refine fills (n := 6) (by omega) (fun i hi s hs ho => ?_) 6 (by omega)
 have h0 := ho 0 (by omega)
 rw [show 0 + i * 7 + 0 = i * 6 + i by omega] at h0
 rw [hraisedS_l0_succ, ← hs]
 unfold hraisedS_l0s
 dsimp only
 rw [show s.1 (i * 6 + i) = m (i * 6 + i) from h0, show i * 6 + i = i * 7 by omega]
 have hX : (addS true (m (i * 7)) (heitherP i p q)).2 = true := by rw [addS_true]
 refine ⟨one_step (X := fun b => addS b (m (i * 7)) (heitherP i p q)) hX s.2, fun h c hc => ?_, fun e he => updF_off _ _ (by omega)⟩
 obtain rfl : c = 0 := by omega
 rw [show 0 + i * 7 + 0 = i * 7 by omega, updF_at]
 exact one_val (X := fun b => addS b (m (i * 7)) (heitherP i p q)) hX h
theorem hraised_is (b : Bool) (m : Nat → Int) (p q : Int) : hraisedS b m p q = hraisedS_l0 p q (m, b) 6 := by
 unfold hraisedS
 exact eta2 _
theorem raised_good (m : Nat → Int) (p q : Int) (b : Bool) : (hraisedS b m p q).2 = false ↔ b = false ∧ ∀ i, i < 6 → (addS false (m (i * 7)) (heitherP i p q)).2 = false := by
 rw [hraised_is]
 exact (raised_fills m p q b).good
theorem raised_val {m : Nat → Int} {p q : Int} {b : Bool} (h : (hraisedS b m p q).2 = false) {i : Nat} (hi : i < 6) : (hraisedS b m p q).1 (i * 7) = (addS false (m (i * 7)) (heitherP i p q)).1 := by
 rw [hraised_is] at h ⊢
 have := (raised_fills m p q b).val h i hi 0 (by omega)
 rw [show 0 + i * 7 + 0 = i * 7 by omega] at this
 exact this
theorem raised_off (m : Nat → Int) (p q : Int) (b : Bool) {e : Nat} (he : ∀ i, i < 6 → e ≠ i * 7) : (hraisedS b m p q).1 e = m e := by
 rw [hraised_is]
 exact (raised_fills m p q b).rest e (fun k hk => by have := he k hk; omega)
def halfS (b : Bool) (x y : Int) : Int × Bool := let p1 := addS b x y; let p2 := partS p1.2 p1.1 1 2; (p2.1, p2.2)
theorem half_true (x y : Int) : (halfS true x y).2 = true := by
 unfold halfS
 dsimp only
 rw [addS_true, pt_true]
theorem even_row (m : Nat → Int) (i : Nat) (z : (Nat → Int) × Bool) : Fills (hevenedS_l1 m i z) (fun j => (halfS false (m (i * 6 + j)) (m (j * 6 + i))).2 = false) (fun j _ => (halfS false (m (i * 6 + j)) (m (j * 6 + i))).1) (i * 6) 1 1 6 := by
 refine fills (n := 6) (by omega) (fun j hj s hs _ => ?_) 6 (by omega)
 rw [hevenedS_l1_succ, ← hs]
 have e : hevenedS_l1s m i j s = (updF s.1 (i * 6 + j) (halfS s.2 (m (i * 6 + j)) (m (j * 6 + i))).1, (halfS s.2 (m (i * 6 + j)) (m (j * 6 + i))).2) := rfl
 rw [e]
 dsimp only
 have hX := half_true (m (i * 6 + j)) (m (j * 6 + i))
 refine ⟨one_step (X := fun b => halfS b (m (i * 6 + j)) (m (j * 6 + i))) hX s.2, fun h c hc => ?_, fun e he => updF_off _ _ (by omega)⟩
 obtain rfl : c = 0 := by omega
 rw [show i * 6 + j * 1 + 0 = i * 6 + j by omega, updF_at]
 exact one_val (X := fun b => halfS b (m (i * 6 + j)) (m (j * 6 + i))) hX h
theorem even_fills (m : Nat → Int) (b : Bool) : Fills (hevenedS_l0 m ((fun _ => 0), b)) (fun i => ∀ j, j < 6 → (halfS false (m (i * 6 + j)) (m (j * 6 + i))).2 = false) (fun i j => (halfS false (m (i * 6 + j)) (m (j * 6 + i))).1) 0 6 6 6 := by
 refine fills (n := 6) (by omega) (fun i hi s hs _ => ?_) 6 (by omega)
 rw [hevenedS_l0_succ, ← hs]
 unfold hevenedS_l0s
 dsimp only
 have F := even_row m i (s.1, s.2)
 refine ⟨F.good, fun h j hj => ?_, fun e he => F.rest e (fun k hk => by omega)⟩
 have := F.val h j hj 0 (by omega)
 rw [show i * 6 + j * 1 + 0 = 0 + i * 6 + j by omega] at this
 exact this
theorem hevened_is (b : Bool) (m : Nat → Int) : hevenedS b m = hevenedS_l0 m ((fun _ => 0), b) 6 := by
 unfold hevenedS
 exact eta2 _
theorem even_good (m : Nat → Int) (b : Bool) : (hevenedS b m).2 = false ↔ b = false ∧ ∀ i, i < 6 → ∀ j, j < 6 → (halfS false (m (i * 6 + j)) (m (j * 6 + i))).2 = false := by
 rw [hevened_is]
 exact (even_fills m b).good
theorem even_val {m : Nat → Int} {b : Bool} (h : (hevenedS b m).2 = false) {i j : Nat} (hi : i < 6) (hj : j < 6) : (hevenedS b m).1 (i * 6 + j) = (halfS false (m (i * 6 + j)) (m (j * 6 + i))).1 := by
 rw [hevened_is] at h ⊢
 have := (even_fills m b).val h i hi j hj
 rw [show 0 + i * 6 + j = i * 6 + j by omega] at this
 exact this
end Go.Proofs.Ytooehgijllihdaa
namespace Go.Proofs.Ytooehgijllihdaa
open Go.RowKit
theorem pts_l1 (r1 : (Nat → Int) × Bool) (r3 : Int × Bool) (k : Nat) (z : (Nat → Int) × Bool) : ∀ i, fPointsS_l1 r1 r3 k z i = hPointsS_l1 r1 r3 k z i
 | 0 => rfl
 | i + 1 => by rw [fPointsS_l1_succ, hPointsS_l1_succ, pts_l1 r1 r3 k z i]; rfl
theorem pts_l0 (r1 : (Nat → Int) × Bool) (r3 : Int × Bool) (z : (Nat → Int) × Bool) : ∀ k, fPointsS_l0 r1 r3 z k = hPointsS_l0 r1 r3 z k
 | 0 => rfl
 | k + 1 => by
  rw [fPointsS_l0_succ, hPointsS_l0_succ, pts_l0 r1 r3 z k]
  unfold fPointsS_l0s hPointsS_l0s
  rw [pts_l1]
theorem sq_true (a : Int) : sqrtS true a = (0, true) := sqrtS_no (tk_true _)
end Go.Proofs.Ytooehgijllihdaa
namespace Go.Proofs.Ytooehgijllihdaa
open Go.RowKit
end Go.Proofs.Ytooehgijllihdaa
namespace Go.Proofs.Ytooehgijllihdaa
open Go.RowKit
theorem sum_a {b : Bool} {p q : Nat → Int} {n : Nat} (h : (msumS b p q n).2 = false) : b = false ∧ (msumS false p q n).2 = false :=
 ahead (X := fun b => msumS b p q n) (by unfold msumS; exact sum_bad rfl n) h
theorem apply_fills (m p : Nat → Int) (b : Bool) : Fills (mApplyS_l0 m p 6 ((fun _ => 0), b)) (fun i => (msumS false (fun x_ => m (i * 6 + x_)) p 6).2 = false) (fun i _ => (msumS false (fun x_ => m (i * 6 + x_)) p 6).1) 0 1 1 6 := by
 refine fills (n := 6) (by omega) (fun i hi s hs _ => ?_) 6 (by omega)
 have e : mApplyS_l0 m p 6 ((fun _ => 0), b) (i + 1) = ((updF s.1 i (msumS s.2 (fun x_ => m (i * 6 + x_)) p 6).1), (msumS s.2 (fun x_ => m (i * 6 + x_)) p 6).2) := by
  rw [hs]; rfl
 rw [e]
 dsimp only
 refine ⟨⟨fun h => sum_a h, fun h => by rw [h.1]; exact h.2⟩, fun h c hc => ?_, fun e he => updF_off _ _ (by omega)⟩
 obtain rfl : c = 0 := by omega
 rw [show 0 + i * 1 + 0 = i by omega, updF_at, (sum_a h).1]
theorem mApply_is (b : Bool) (m p : Nat → Int) : mApplyS b m p 6 = msoundRS (mApplyS_l0 m p 6 ((fun _ => 0), b) 6).2 (mApplyS_l0 m p 6 ((fun _ => 0), b) 6).1 := by
 unfold mApplyS
 exact eta2 _
theorem soundR_flag (b : Bool) (g : Nat → Int) : (msoundRS b g).2 = b := by cases b <;> rfl
theorem apply_good (m p : Nat → Int) (b : Bool) : (zApply6 b m p).2 = false ↔ b = false ∧ ∀ i, i < 6 → (msumS false (fun x_ => m (i * 6 + x_)) p 6).2 = false := by
 rw [← mApply6_eq, mApply_is, soundR_flag]
 exact (apply_fills m p b).good
theorem apply_val {m p : Nat → Int} {b : Bool} (h : (zApply6 b m p).2 = false) {i : Nat} (hi : i < 6) : (zApply6 b m p).1 i = (msumS false (fun x_ => m (i * 6 + x_)) p 6).1 := by
 rw [← mApply6_eq, mApply_is] at h ⊢
 rw [soundR_flag] at h
 have := (apply_fills m p b).val h i hi 0 (by omega)
 rw [show 0 + i * 1 + 0 = i by omega] at this
 rw [h]
 exact this
theorem sum_comm (p q : Nat → Int) (z : Int × Bool) : ∀ n, msumS_l0 p q z n = msumS_l0 q p z n
 | 0 => rfl
 | n + 1 => by
  unfold msumS_l0
  rw [sum_comm p q z n]
  dsimp only
  rw [mul_swap]
theorem sum_congr {p q p' q' : Nat → Int} {n : Nat} (hp : ∀ k, k < n → p k = p' k) (hq : ∀ k, k < n → q k = q' k) (z : Int × Bool) : msumS_l0 p q z n = msumS_l0 p' q' z n := by
 induction n with
 | zero => rfl
 | succ n ih =>
  unfold msumS_l0
  rw [ih (fun k hk => hp k (by omega)) (fun k hk => hq k (by omega)), hp n (by omega), hq n (by omega)]
theorem mul_num {x y : Int} (h : (mulS false x y).2 = false) : numB y = true := by
 cases hy : numB y
 ·have : mulS false x y = (0, true) := by unfold mulS; exact partS_no (by unfold tk; simp [hy])
  rw [this] at h; cases h
 ·rfl
theorem sum_nums {p q : Nat → Int} {z : Int × Bool} : ∀ {n : Nat}, (msumS_l0 p q z n).2 = false → ∀ k, k < n → numB (q k) = true
 | n + 1, h, k, hk => by
  unfold msumS_l0 at h
  obtain ⟨h1, _⟩ := add_a h
  obtain ⟨h2, h3⟩ := mul_a h1
  rcases Nat.lt_succ_iff_lt_or_eq.1 hk with hk | rfl
  ·exact sum_nums h2 k hk
  ·exact mul_num h3
theorem mul_zero {y : Int} (h : numB y = true) : mulS false 0 y = (0, false) := by
 have h0 : numB 0 = true := by decide
 have h1 : numB 1099511627776 = true := by decide
 have hr : rnd (sz 0 * sz y) (sz 1099511627776) = 0 := by
  rw [show sz 0 = 0 from rfl, Int.zero_mul]
  decide
 unfold mulS partS
 rw [show tk false [0, y, 1099511627776] = true by unfold tk; simp [h, h0, h1], hr]
 have ho : ∀ m, out 0 m = (0, false) := fun m => by cases m <;> rfl
 rw [ho]
 rfl
theorem add_nought : addS false 0 0 = (0, false) := by decide
theorem sum_zero {q : Nat → Int} : ∀ n, (∀ k, k < n → numB (q k) = true) → msumS_l0 (fun _ => 0) q (0, false) n = (0, false)
 | 0, _ => rfl
 | n + 1, h => by
  unfold msumS_l0
  rw [sum_zero n (fun k hk => h k (by omega))]
  dsimp only
  rw [mul_zero (h n (by omega)), add_nought]
theorem row_good (y u : Nat → Int) (b : Bool) : (zApply6 b (matF y) u).2 = false ↔ b = false ∧ (msumS_l0 y u (0, false) 6).2 = false := by
 have e0 : msumS false (fun x_ => matF y (0 * 6 + x_)) u 6 = msumS_l0 y u (0, false) 6 := by
  rw [msum_is]
  exact sum_congr (fun k hk => by unfold matF; rw [if_pos (by omega), show 0 * 6 + k = k by omega]) (fun _ _ => rfl) _
 have e1 : ∀ i, 1 ≤ i → msumS false (fun x_ => matF y (i * 6 + x_)) u 6 = msumS_l0 (fun _ => 0) u (0, false) 6 := fun i hi => by
  rw [msum_is]
  exact sum_congr (fun k hk => by unfold matF; rw [if_neg (by omega)]) (fun _ _ => rfl) _
 rw [apply_good]
 constructor
 ·rintro ⟨h1, h2⟩
  have := h2 0 (by omega)
  rw [e0] at this
  exact ⟨h1, this⟩
 ·rintro ⟨h1, h2⟩
  refine ⟨h1, fun i hi => ?_⟩
  rcases Nat.eq_zero_or_pos i with rfl | hp
  ·rw [e0]; exact h2
  ·rw [e1 i hp, sum_zero 6 (sum_nums h2)]
theorem row_val {y u : Nat → Int} {b : Bool} (h : (zApply6 b (matF y) u).2 = false) : (zApply6 b (matF y) u).1 0 = (msumS_l0 y u (0, false) 6).1 := by
 rw [apply_val h (by omega), msum_is]
 have : msumS_l0 (fun x_ => matF y (0 * 6 + x_)) u (0, false) 6 = msumS_l0 y u (0, false) 6 := sum_congr (fun k hk => by unfold matF; rw [if_pos (by omega), show 0 * 6 + k = k by omega]) (fun _ _ => rfl) _
 rw [this]
def tmS (b : Bool) (n : Int) (p q : Nat → Int) : Int × Bool := let p1 := msumS_l0 p q (0, b) 6; let p2 := subS p1.2 n p1.1; (p2.1, p2.2)
def trS (b : Bool) (p c k : Nat → Int) : (Nat → Int) × Bool := let p2 := zApply6 b c k; let p3 := hlessS p2.2 p p2.1; (p3.1, p3.2)
theorem tr_good (p c k : Nat → Int) (b : Bool) : (trS b p c k).2 = false ↔ b = false ∧ ∀ j, j < 6 → (tmS false (p j) k (rowK c j)).2 = false := by
 have e : ∀ j, msumS false (fun x_ => c (j * 6 + x_)) k 6 = msumS_l0 k (rowK c j) (0, false) 6 := fun j => by rw [msum_is, sum_comm]; rfl
 unfold trS
 dsimp only
 rw [less_good]
 constructor
 ·rintro ⟨h1, h2⟩
  obtain ⟨h3, h4⟩ := (apply_good _ _ _).1 h1
  refine ⟨h3, fun j hj => ?_⟩
  have h5 := h2 j hj
  have h6 := h4 j hj
  rw [apply_val h1 hj, e] at h5
  rw [e] at h6
  unfold tmS
  dsimp only
  rw [h6]
  exact h5
 ·rintro ⟨h1, h2⟩
  have h3 : ∀ j, j < 6 → (msumS_l0 k (rowK c j) (0, false) 6).2 = false ∧ (subS false (p j) (msumS_l0 k (rowK c j) (0, false) 6).1).2 = false := fun j hj => by
   have := h2 j hj
   unfold tmS at this
   obtain ⟨h4, h5⟩ := sub_a this
   exact ⟨h4, h5⟩
  have h4 := (apply_good c k b).2 ⟨h1, fun j hj => by rw [e]; exact (h3 j hj).1⟩
  refine ⟨h4, fun j hj => ?_⟩
  rw [apply_val h4 hj, e]
  exact (h3 j hj).2
theorem tr_val {p c k : Nat → Int} {b : Bool} (h : (trS b p c k).2 = false) {j : Nat} (hj : j < 6) : (trS b p c k).1 j = (tmS false (p j) k (rowK c j)).1 := by
 have hg := ((tr_good p c k b).1 h).2 j hj
 unfold trS at h ⊢
 dsimp only at h ⊢
 rw [less_val h hj]
 have h1 := ((less_good _ _ _).1 h).1
 rw [apply_val h1 hj, msum_is, sum_comm]
 unfold tmS at hg ⊢
 dsimp only at hg ⊢
 rw [(sub_a hg).1]
 rfl
theorem met_step (g l c : Nat → Int) (i : Nat) (s : (Nat → Int) × (Nat → Int) × Bool) : hmetS_l0s g l c i s = (put6 s.1 (i * 6) (zSolve6 s.2.2 l (rowK c i)).1, put6 s.2.1 (i * 6) (trS (zSolve6 s.2.2 l (rowK c i)).2 (fun x_ => g (7 + i * 6 + x_)) c (fun x_ => put6 s.1 (i * 6) (zSolve6 s.2.2 l (rowK c i)).1 (i * 6 + x_))).1, (trS (zSolve6 s.2.2 l (rowK c i)).2 (fun x_ => g (7 + i * 6 + x_)) c (fun x_ => put6 s.1 (i * 6) (zSolve6 s.2.2 l (rowK c i)).1 (i * 6 + x_))).2) := by
 unfold hmetS_l0s put6 rowK trS
 dsimp only
theorem tm_congr {n : Int} {p p' q : Nat → Int} (h : ∀ k, k < 6 → p k = p' k) (b : Bool) : tmS b n p q = tmS b n p' q := by
 unfold tmS
 rw [sum_congr h (fun _ _ => rfl)]
structure MetG (g l c : Nat → Int) (i : Nat) : Prop where
 k : (zSolve6 false l (rowK c i)).2 = false
 t : ∀ j, j < 6 → (tmS false (g (7 + i * 6 + j)) (zSolve6 false l (rowK c i)).1 (rowK c j)).2 = false
theorem met_iff (g l c : Nat → Int) (i : Nat) (s : Nat → Int) (b : Bool) : (trS (zSolve6 b l (rowK c i)).2 (fun x_ => g (7 + i * 6 + x_)) c (fun x_ => put6 s (i * 6) (zSolve6 b l (rowK c i)).1 (i * 6 + x_))).2 = false ↔ b = false ∧ MetG g l c i := by
 have e : ∀ b j, tmS false (g (7 + i * 6 + j)) (fun x_ => put6 s (i * 6) (zSolve6 b l (rowK c i)).1 (i * 6 + x_)) (rowK c j) = tmS false (g (7 + i * 6 + j)) (zSolve6 b l (rowK c i)).1 (rowK c j) := fun b j => tm_congr (fun k hk => put6_at _ _ _ hk) false
 rw [tr_good]
 constructor
 ·rintro ⟨h1, h2⟩
  obtain ⟨h3, h4⟩ := solve_a h1
  subst h3
  exact ⟨rfl, h4, fun j hj => by rw [← e]; exact h2 j hj⟩
 ·rintro ⟨rfl, h⟩
  exact ⟨h.k, fun j hj => by rw [e]; exact h.t j hj⟩
theorem met_k (g l c : Nat → Int) (b : Bool) : Fills (fun i => ((hmetS_l0 g l c ((fun _ => 0), (fun _ => 0), b) i).1, (hmetS_l0 g l c ((fun _ => 0), (fun _ => 0), b) i).2.2)) (MetG g l c) (fun i => (zSolve6 false l (rowK c i)).1) 0 6 6 6 := by
 refine fills (n := 6) (by omega) (fun i hi s hs _ => ?_) 6 (by omega)
 subst hs
 dsimp only
 rw [hmetS_l0_succ]
 generalize hmetS_l0 g l c ((fun _ => 0), (fun _ => 0), b) i = t
 rw [met_step]
 dsimp only
 refine ⟨met_iff g l c i t.1 t.2.2, fun h j hj => ?_, fun e he => put6_off _ _ _ (by omega)⟩
 rw [show 0 + i * 6 + j = i * 6 + j by omega, put6_at _ _ _ hj, ((met_iff g l c i t.1 t.2.2).1 h).1]
theorem met_t (g l c : Nat → Int) (b : Bool) : Fills (fun i => ((hmetS_l0 g l c ((fun _ => 0), (fun _ => 0), b) i).2.1, (hmetS_l0 g l c ((fun _ => 0), (fun _ => 0), b) i).2.2)) (MetG g l c) (fun i j => (tmS false (g (7 + i * 6 + j)) (zSolve6 false l (rowK c i)).1 (rowK c j)).1) 0 6 6 6 := by
 refine fills (n := 6) (by omega) (fun i hi s hs _ => ?_) 6 (by omega)
 subst hs
 dsimp only
 rw [hmetS_l0_succ]
 generalize hmetS_l0 g l c ((fun _ => 0), (fun _ => 0), b) i = t
 rw [met_step]
 dsimp only
 refine ⟨met_iff g l c i t.1 t.2.2, fun h j hj => ?_, fun e he => put6_off _ _ _ (by omega)⟩
 rw [show 0 + i * 6 + j = i * 6 + j by omega, put6_at _ _ _ hj, tr_val h hj, ((met_iff g l c i t.1 t.2.2).1 h).1, tm_congr (fun k hk => put6_at _ _ _ hk) false]
end Go.Proofs.Ytooehgijllihdaa
namespace Go.Proofs.Ytooehgijllihdaa
open Go.RowKit
theorem hMeet_chain (bad : Bool) (g : Nat → Int) (sky : Nat → Int) (body : Nat → Int) : ∃ (r1 : (Nat → Int) × Bool) (r3 : V6 × Bool) (r4 : (Nat → Int) × Bool) (r5 : (Nat → Int) × Bool) (r7 : (Nat → Int) × Bool) (r9 : (Nat → Int) × Bool) (r10 : (Nat → Int) × Bool) (r12 : (Nat → Int) × Bool) (r14 : V6 × Bool) (r15 : V6) (r16 : (Nat → Int) × Bool) (r17 : (Nat → Int) × Bool) (r19 : (Nat → Int) × Bool) (r20 : (Nat → Int) × Bool) (r21 : (Nat → Int) × Bool),
  r1 = hPointsS bad g ∧ r3 = hunitsS r1.2 sky ∧ r4 = hviewedS r3.2 g r1.1 (fun i_ => if i_ = 0 then r3.1.1 else if i_ = 1 then r3.1.2.1 else if i_ = 2 then r3.1.2.2.1 else if i_ = 3 then r3.1.2.2.2.1 else if i_ = 4 then r3.1.2.2.2.2.1 else r3.1.2.2.2.2.2) ∧ r5 = hmeanS r4.2 r4.1 ∧ r7 = hbesideS r5.2 r4.1 r5.1 ∧ r9 = hproductsS r7.2 r7.1 r7.1 ∧ r10 = hraisedS r9.2 r9.1 67108864 268435456 ∧ r12 = hproductsS r10.2 r1.1 r7.1 ∧ r14 = hunitsS r12.2 body ∧ r15 = hjoinedP r14.1 ∧ r16 = hlessS r14.2 (fun i_ => if i_ = 0 then r15.1 else if i_ = 1 then r15.2.1 else if i_ = 2 then r15.2.2.1 else if i_ = 3 then r15.2.2.2.1 else if i_ = 4 then r15.2.2.2.2.1 else r15.2.2.2.2.2) r5.1 ∧ r17 = zRoot6 r16.2 r10.1 ∧ r19 = zSolve6 r17.2 r17.1 r16.1 ∧ r20 = zApply6 r19.2 (matF r16.1) r19.1 ∧ r21 = hmetS r20.2 g r17.1 r12.1 r16.1 ∧
  hMeetS bad g sky body = if (r20.1 0) > 32985348833280 then ((g, (r20.1 0), false), r20.2) else if r21.2 then (((fun _ => 0), 0, false), r21.2) else ((r21.1, (r20.1 0), true), r21.2) := by
 refine ⟨_, _, _, _, _, _, _, _, _, _, _, _, _, _, _, rfl, rfl, rfl, rfl, rfl, rfl, rfl, rfl, rfl, rfl, rfl, rfl, rfl, rfl, rfl, ?_⟩
 unfold hMeetS
 exact rfl
theorem hmet_chain (bad : Bool) (g : Nat → Int) (l : Nat → Int) (c : Nat → Int) (y : Nat → Int) : ∃ (r5 : (Nat → Int) × (Nat → Int) × Bool) (r6 : (Nat → Int) × Bool) (r8 : V4 × Bool) (r9 : V3 × Bool) (r10 : (Nat → Int) × Bool),
  r5 = hmetS_l0 g l c ((fun _ => 0), (fun _ => 0), bad) 6 ∧ r6 = zApply6 r5.2.2 r5.1 y ∧ r8 = hturnedS r6.2 ((g 0), (g 1), (g 2), (g 3)) r6.1 ∧ r9 = hbiasedS r8.2 ((g 4), (g 5), (g 6)) r6.1 ∧ r10 = hevenedS r9.2 r5.2.1 ∧
  hmetS bad g l c y = ((guessF r8.1 r9.1 r10.1), r10.2) := by
 refine ⟨_, _, _, _, _, rfl, rfl, rfl, rfl, rfl, ?_⟩
 unfold hmetS
 exact rfl
end Go.Proofs.Ytooehgijllihdaa
namespace Go.Proofs.Ytooehgijllihdaa
open Go.RowKit
def six6 (p : V6) : Nat → Int := fun i_ => if i_ = 0 then p.1 else if i_ = 1 then p.2.1 else if i_ = 2 then p.2.2.1 else if i_ = 3 then p.2.2.2.1 else if i_ = 4 then p.2.2.2.2.1 else p.2.2.2.2.2
theorem met_zero (g l c : Nat → Int) (z : (Nat → Int) × (Nat → Int) × Bool) : hmetS_l0 g l c z 0 = z := rfl
theorem met_flag (g l c : Nat → Int) (b : Bool) : (hmetS_l0 g l c ((fun _ => 0), (fun _ => 0), b) 6).2.2 = false ↔ b = false ∧ ∀ i, i < 6 → MetG g l c i := by
 have G := (met_k g l c b).good
 dsimp only at G
 rw [met_zero] at G
 dsimp only at G
 exact G
end Go.Proofs.Ytooehgijllihdaa
