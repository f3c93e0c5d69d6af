/-
  Package mat's steps are the chapter's, place by place; of heavy matrices: roots, squares and what is solved, for the seat Ytcnbcdnjogopdaa. No Go text in sight.
-/
import Derived.Test.YtcnbcdnjogopdaaMEq
import Derived.Test.YtcnbcdnjogopdaaKBack
import Derived.Test.YtcnbcdnjogopdaaKSolve3
namespace Go.Proofs.Ytcnbcdnjogopdaa
open Go.RowKit

/-- A matrix of cells in a row. -/
def mt (g : Nat → Int) : Nat → Nat → Int := fun a b => g (a * 6 + b)
def Rel (g : Nat → Int) (l : Nat → Nat → Int) : Prop := ∀ a b, b < 6 → g (a * 6 + b) = l a b
theorem less_k {p q p' q' : Nat → Int} (bad : Bool) (s : Int) : ∀ k, (∀ x, x < k → p x = p' x ∧ q x = q' x) → mlessS_l0 p q (s, bad) k = subsS bad s p' q' k
  | 0, _ => rfl
  | k + 1, h => by
    unfold mlessS_l0 subsS
    rw [less_k bad s k fun x hx => h x (by omega), (h k (by omega)).1, (h k (by omega)).2]
theorem sum_k {p q p' q' : Nat → Int} (bad : Bool) : ∀ k, (∀ x, x < k → p x = p' x ∧ q x = q' x) → msumS_l0 p q (0, bad) k = sumS bad p' q' k
  | 0, _ => rfl
  | k + 1, h => by
    unfold msumS_l0 sumS
    rw [sum_k bad k fun x hx => h x (by omega), (h k (by omega)).1, (h k (by omega)).2]
theorem Rel.set {g : Nat → Int} {l : Nat → Nat → Int} (R : Rel g l) (i j : Nat) (hj : j < 6) (v : Int) : Rel (updF g (i * 6 + j) v) (setM l i j v) := fun a b hb => by
  unfold updF setM
  by_cases c : a = i ∧ b = j
  · rw [if_pos (by omega), if_pos c]
  · rw [if_neg (by omega), if_neg c]; exact R a b hb
theorem root_l1_k (m : Nat → Int) {i : Nat} (hi : i < 6) {z : (Nat → Int) × Bool} {x : LB} (hb : z.2 = x.2) (R : Rel z.1 x.1) : ∀ j, j ≤ i → (mRootS_l1 m i z j).2 = (rowS (mt m) i x j).2 ∧ Rel (mRootS_l1 m i z j).1 (rowS (mt m) i x j).1
  | 0, _ => ⟨hb, R⟩
  | j + 1, h => by
    obtain ⟨eb, eR⟩ := root_l1_k m hi hb R j (by omega)
    unfold mRootS_l1 rowS
    generalize mRootS_l1 m i z j = s at eb eR ⊢
    generalize rowS (mt m) i x j = y at eb eR ⊢
    dsimp only
    have e : mlessS s.2 (m (i * 6 + j)) (fun x_ => s.1 (i * 6 + x_)) (fun x_ => s.1 (j * 6 + x_)) j = subsS y.2 (mt m i j) (y.1 i) (y.1 j) j := by
      rw [mless_is, eb]
      exact less_k y.2 _ j fun k hk => ⟨eR i k (by omega), eR j k (by omega)⟩
    rw [e, eR j j (by omega)]
    unfold entS
    dsimp only
    rw [if_neg (show ¬ i = j by omega)]
    exact ⟨rfl, eR.set i j (by omega) _⟩
theorem root_l0_k (m : Nat → Int) (bad : Bool) : ∀ i, i ≤ 6 → (mRootS_l0 m (fun _ => 0, bad) i).2 = (rowsS (mt m) (fun _ _ => 0, bad) i).2 ∧ Rel (mRootS_l0 m (fun _ => 0, bad) i).1 (rowsS (mt m) (fun _ _ => 0, bad) i).1
  | 0, _ => ⟨rfl, fun _ _ _ => rfl⟩
  | i + 1, h => by
    obtain ⟨eb, eR⟩ := root_l0_k m bad i (by omega)
    unfold mRootS_l0 rowsS
    generalize mRootS_l0 m (fun _ => 0, bad) i = s at eb eR ⊢
    generalize rowsS (mt m) (fun _ _ => 0, bad) i = y at eb eR ⊢
    dsimp only
    obtain ⟨tb, tR⟩ := root_l1_k m (show i < 6 by omega) (z := (s.1, s.2)) (x := y) eb eR i (Nat.le_refl i)
    unfold rowS
    generalize mRootS_l1 m i (s.1, s.2) i = t at tb tR ⊢
    generalize rowS (mt m) i y i = u at tb tR ⊢
    dsimp only
    have e : mlessS t.2 (m (i * 6 + i)) (fun x_ => t.1 (i * 6 + x_)) (fun x_ => t.1 (i * 6 + x_)) i = subsS u.2 (mt m i i) (u.1 i) (u.1 i) i := by
      rw [mless_is, tb]
      exact less_k u.2 _ i fun k hk => ⟨tR i k (by omega), tR i k (by omega)⟩
    rw [e, mpivot_is]
    have e2 : pivS (subsS u.2 (mt m i i) (u.1 i) (u.1 i) i) = entS u.2 (mt m i i) (u.1 i) (u.1 i) i i := by
      unfold pivS entS
      dsimp only
      rw [if_pos rfl]
      by_cases c : (subsS u.2 (mt m i i) (u.1 i) (u.1 i) i).1 < 1
      · rw [if_pos c, if_pos c]
      · rw [if_neg c, if_neg c]
    rw [e2]
    exact ⟨rfl, tR.set i i (by omega) _⟩
/-- Of a heavy matrix a root is there. -/
theorem heavy_root {m : Nat → Int} {n : Nat} (H : Heavy (mt m) n) : ∃ g L, mRootS false m n = (g, false) ∧ Rel g L ∧ Whole (mt m) L n := by
  obtain ⟨L, e, R, Z⟩ := rows_good H (Nat.le_refl n)
  obtain ⟨eb, eR⟩ := root_l0_k m false n H.n6
  rw [e] at eb eR
  refine ⟨(mRootS_l0 m (fun _ => 0, false) n).1, L, ?_, eR, R, Z⟩
  unfold mRootS
  dsimp only
  rw [eb]
  rfl

/-! ### Squares -/
theorem sq_l1 {l : Nat → Int} {n i : Nat} {S : Nat → Nat → Int} (hn : n ≤ 6) (hi : i < n) (hS : ∀ a b, a < n → b < n → msumS false (fun x_ => l (a * 6 + x_)) (fun x_ => l (b * 6 + x_)) n = (S a b, false)) {z : (Nat → Int) × Bool} (hz : z.2 = false) :
    ∀ j, j ≤ n → (mSquareS_l1 l n i z j).2 = false ∧ ∀ a b, b < 6 → (mSquareS_l1 l n i z j).1 (a * 6 + b) = if a = i ∧ b < j then S i b else z.1 (a * 6 + b)
  | 0, _ => ⟨hz, fun a b _ => by rw [if_neg (by omega)]; rfl⟩
  | j + 1, h => by
    obtain ⟨eb, e⟩ := sq_l1 hn hi hS hz j (by omega)
    unfold mSquareS_l1
    generalize mSquareS_l1 l n i z j = s at eb e ⊢
    dsimp only
    rw [eb, hS i j hi (by omega)]
    refine ⟨rfl, fun a b hb => ?_⟩
    unfold updF
    by_cases c : a = i ∧ b = j
    · obtain ⟨rfl, rfl⟩ := c
      rw [if_pos rfl, if_pos ⟨rfl, by omega⟩]
    · rw [if_neg (by omega), e a b hb]
      by_cases d : a = i ∧ b < j
      · rw [if_pos d, if_pos (by omega)]
      · rw [if_neg d, if_neg (by omega)]
theorem sq_l0 {l : Nat → Int} {n : Nat} {S : Nat → Nat → Int} (hn : n ≤ 6) (hS : ∀ a b, a < n → b < n → msumS false (fun x_ => l (a * 6 + x_)) (fun x_ => l (b * 6 + x_)) n = (S a b, false)) :
    ∀ i, i ≤ n → (mSquareS_l0 l n (fun _ => 0, false) i).2 = false ∧ ∀ a b, a < i → b < n → (mSquareS_l0 l n (fun _ => 0, false) i).1 (a * 6 + b) = S a b
  | 0, _ => ⟨rfl, fun a b h => by omega⟩
  | i + 1, h => by
    obtain ⟨eb, e⟩ := sq_l0 hn hS i (by omega)
    unfold mSquareS_l0
    generalize mSquareS_l0 l n (fun _ => 0, false) i = s at eb e ⊢
    dsimp only
    obtain ⟨tb, t⟩ := sq_l1 hn (show i < n by omega) hS (z := (s.1, s.2)) eb n (Nat.le_refl n)
    refine ⟨tb, fun a b ha hb => ?_⟩
    rw [t a b (by omega)]
    by_cases c : a = i
    · subst c; rw [if_pos ⟨rfl, hb⟩]
    · rw [if_neg (by omega)]; exact e a b (by omega) hb
/-- MatBack: the square of a heavy matrix's root. -/
theorem back_math {m : Nat → Int} {n : Nat} (H : Heavy (mt m) n) : ∃ g s, mRootS false m n = (g, false) ∧ mSquareS false g n = (s, false) ∧ ∀ i j, i < n → j < n → Ab (s (i * 6 + j) - m (i * 6 + j)) 64 := by
  obtain ⟨g, L, e, R, W⟩ := heavy_root H
  have n6 := H.n6
  have hS : ∀ a b, a < n → b < n → msumS false (fun x_ => g (a * 6 + x_)) (fun x_ => g (b * 6 + x_)) n = ((sumS false (L a) (L b) n).1, false) := fun a b ha hb => by
    obtain ⟨s, es, _⟩ := square_near H W ha hb
    rw [msum_is, sum_k (p' := L a) (q' := L b) false n fun x hx => ⟨R a x (by omega), R b x (by omega)⟩, es]
  obtain ⟨sb, sv⟩ := sq_l0 n6 hS n (Nat.le_refl n)
  refine ⟨g, (mSquareS_l0 g n (fun _ => 0, false) n).1, e, ?_, fun i j hi hj => ?_⟩
  · unfold mSquareS
    dsimp only
    rw [sb]
    rfl
  · rw [sv i j hi hj]
    obtain ⟨s, es, h⟩ := square_near H W hi hj
    rw [es]
    exact h.le (by decide)

/-! ### What is solved -/
theorem fwd_k {g p : Nat → Int} {L : Nat → Nat → Int} (R : Rel g L) (bad : Bool) : ∀ i, i ≤ 6 → mforwardS_l0 g p (fun _ => 0, bad) i = fwdS L p bad i
  | 0, _ => rfl
  | i + 1, h => by
    unfold mforwardS_l0 fwdS
    rw [fwd_k R bad i (by omega)]
    dsimp only
    rw [mless_is, less_k (p' := L i) (q' := (fwdS L p bad i).1) _ _ i fun x hx => ⟨R i x (by omega), rfl⟩, R i i (by omega)]
    rfl
theorem bwd_l1_k {g : Nat → Int} {L : Nat → Nat → Int} (R : Rel g L) {s : (Nat → Int) × Bool} {i : Nat} (hi : i < 6) (v : Int) (bad : Bool) : ∀ k, mSolveS_l1 g s i (v, bad) k = subsS bad v (fun c => L (i + 1 + c) i) (fun c => s.1 (i + 1 + c)) k
  | 0 => rfl
  | k + 1 => by
    unfold mSolveS_l1 subsS
    rw [bwd_l1_k R hi v bad k]
    dsimp only
    rw [R (i + 1 + k) i hi]
theorem bwd_k {g : Nat → Int} {L : Nat → Nat → Int} (R : Rel g L) {n : Nat} (hn : n ≤ 6) (r : (Nat → Int) × Bool) (bad : Bool) : ∀ d, d ≤ n → mSolveS_l0 g n r (fun _ => 0, bad) d = bwdS L r.1 n bad d
  | 0, _ => rfl
  | d + 1, h => by
    unfold mSolveS_l0 bwdS
    rw [bwd_k R hn r bad d (by omega)]
    dsimp only
    rw [bwd_l1_k R (show n - 1 - d < 6 by omega), R _ _ (show n - 1 - d < 6 by omega)]
    rfl
theorem ap_l0 {m p : Nat → Int} {n : Nat} {S : Nat → Int} (hS : ∀ a, a < n → msumS false (fun x_ => m (a * 6 + x_)) p n = (S a, false)) :
    ∀ i, i ≤ n → (mApplyS_l0 m p n (fun _ => 0, false) i).2 = false ∧ ∀ a, a < i → (mApplyS_l0 m p n (fun _ => 0, false) i).1 a = S a
  | 0, _ => ⟨rfl, fun a h => by omega⟩
  | i + 1, h => by
    obtain ⟨eb, e⟩ := ap_l0 hS i (by omega)
    unfold mApplyS_l0
    generalize mApplyS_l0 m p n (fun _ => 0, false) i = s at eb e ⊢
    dsimp only
    rw [eb, hS i (by omega)]
    refine ⟨rfl, fun a ha => ?_⟩
    unfold updF
    by_cases c : a = i
    · rw [if_pos c, c]
    · rw [if_neg c]; exact e a (by omega)
/-- MatSolved: what is solved of a heavy matrix, put in again. -/
theorem solved_math {m p : Nat → Int} {n : Nat} (H : Heavy (mt m) n) (hp : ∀ i, i < n → Ab (p i) 1099511627776) :
    ∃ g x y, mRootS false m n = (g, false) ∧ mSolveS false g p n = (x, false) ∧ mApplyS false m x n = (y, false) ∧ ∀ i, i < n → Ab (y i - p i) 16777216 := by
  obtain ⟨g, L, e, R, W⟩ := heavy_root H
  have n6 := H.n6
  obtain ⟨v, ev, F⟩ := fwd_good H W hp (Nat.le_refl n)
  obtain ⟨x, ex, B⟩ := bwd_good H W (fun i hi => (F i hi).ub) (Nat.le_refl n)
  have B' : ∀ k, k < n → Bw v L x n k := fun k hk => B k (by omega) hk
  have hS : ∀ a, a < n → msumS false (fun x_ => m (a * 6 + x_)) x n = ((sumS false (mt m a) x n).1, false) := fun a ha => by
    obtain ⟨z, ez, _⟩ := solved_near H W ha F B'
    rw [msum_is, sum_k (p := fun x_ => m (a * 6 + x_)) (q := x) (p' := mt m a) (q' := x) false n fun k hk => ⟨rfl, rfl⟩, ez]
  obtain ⟨yb, yv⟩ := ap_l0 hS n (Nat.le_refl n)
  refine ⟨g, x, (mApplyS_l0 m x n (fun _ => 0, false) n).1, e, ?_, ?_, fun i hi => ?_⟩
  · unfold mSolveS mforwardS
    dsimp only
    rw [fwd_k R false n n6, ev, bwd_k R n6 _ _ n (Nat.le_refl n)]
    dsimp only
    rw [ex]
    rfl
  · unfold mApplyS
    dsimp only
    rw [yb]
    rfl
  · rw [yv i hi]
    obtain ⟨z, ez, h⟩ := solved_near H W hi F B'
    rw [ez]
    exact h
end Go.Proofs.Ytcnbcdnjogopdaa
