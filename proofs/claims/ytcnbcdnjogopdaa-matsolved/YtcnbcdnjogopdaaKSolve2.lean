/-
  What is solved with a root, and put in again: forward and back, for the seat Ytcnbcdnjogopdaa. No Go text in sight.
-/
import Derived.Test.YtcnbcdnjogopdaaKSolve
namespace Go.Proofs.Ytcnbcdnjogopdaa
open Go.RowKit

/-- What a column makes of numbers of up to Z. -/
theorem col_mul {m L : Nat → Nat → Int} {n t : Nat} (H : Heavy m n) (W : Whole m L n) (ht : t < n) {q z : Nat → Int} {Z : Int} (Z0 : 0 ≤ Z) (hz : ∀ i, t < i → i < n → az (z i) ≤ Z) (hq : ∀ i, t < i → i < n → MulR (q i) (L i t) (z i)) :
    2199023255552 * sm (fun i => if t < i then az (q i) else 0) n ≤ 2 * (Z * L t t) + 6597069766656 := by
  have n6 := H.n6
  have c := col_sum H W ht
  have m1 : sm (fun i => 2199023255552 * (if t < i then az (q i) else 0)) n ≤ sm (fun i => 2 * Z * (if t < i then az (L i t) else 0) + 1099511627776) n := sm_le fun i hi => by
    show 2199023255552 * (if t < i then az (q i) else 0) ≤ 2 * Z * (if t < i then az (L i t) else 0) + 1099511627776
    by_cases c : t < i
    · rw [if_pos c, if_pos c]
      have r := hq i c hi
      have k := az_mul (L i t) (z i)
      have k2 : az (L i t) * az (z i) ≤ az (L i t) * Z := Int.mul_le_mul_of_nonneg_left (hz i c hi) (az_n _)
      have e : 2 * Z * az (L i t) = 2 * (az (L i t) * Z) := by grind
      have := r.lo; have := r.hi; have := k.lo; have := k.hi
      rw [e]
      have h : az (q i) ≤ (2 * (az (L i t) * Z) + 1099511627776) / 2199023255552 := by
        generalize L i t * z i = x at *
        generalize az (L i t) * az (z i) = y at *
        generalize az (L i t) * Z = u at *
        refine az_le (by omega) (by omega)
      omega
    · rw [if_neg c, if_neg c]; omega
  rw [sm_mul, sm_add, sm_mul, sm_const] at m1
  have m2 : Z * sm (fun i => if t < i then az (L i t) else 0) n ≤ Z * L t t := Int.mul_le_mul_of_nonneg_left c Z0
  have e : 2 * Z * sm (fun i => if t < i then az (L i t) else 0) n = 2 * (Z * sm (fun i => if t < i then az (L i t) else 0) n) := by grind
  rw [e] at m1
  have m3 : (n : Int) * 1099511627776 ≤ 6 * 1099511627776 := Int.mul_le_mul_of_nonneg_right (by omega) (by decide)
  omega
def qf (L : Nat → Nat → Int) (y : Nat → Int) (i k : Nat) : Int := (mulS false (L i k) (y k)).1
def rf (b : Nat → Int) (L : Nat → Nat → Int) (y : Nat → Int) (t i : Nat) : Int := b i - sm (qf L y i) t
theorem rf_succ (b : Nat → Int) (L : Nat → Nat → Int) (y : Nat → Int) (t i : Nat) : rf b L y (t + 1) i = rf b L y t i - qf L y i t := by
  unfold rf; show b i - (sm (qf L y i) t + qf L y i t) = _; omega
structure Fw (b : Nat → Int) (L : Nat → Nat → Int) (y : Nat → Int) (k : Nat) : Prop where
  dv : divS false (rf b L y k k) (L k k) = (y k, false)
  R : DivR (y k) (rf b L y k k) (L k k)
  ub : Ab (y k) 281474976710656
theorem qf_is {L : Nat → Nat → Int} {y : Nat → Int} {i k : Nat} (h : Ab (L i k) 1099511627776) (hy : Ab (y k) 576460752303423488) : mulS false (L i k) (y k) = (qf L y i k, false) ∧ MulR (qf L y i k) (L i k) (y k) := by
  obtain ⟨p, e, r⟩ := mul_big h hy
  unfold qf
  rw [e]
  exact ⟨rfl, r⟩
theorem norm_to {m L : Nat → Nat → Int} {n : Nat} {b y : Nat → Int} (H : Heavy m n) (W : Whole m L n) (hb : ∀ i, i < n → Ab (b i) 1099511627776) : ∀ {t : Nat}, t ≤ n → (∀ k, k < t → Fw b L y k) → sm (fun i => if t ≤ i then az (rf b L y t i) else 0) n ≤ 6597069766656 + 4 * t
  | 0, _, _ => by
    have n6 := H.n6
    have a := sm_le (f := fun i => if 0 ≤ i then az (rf b L y 0 i) else 0) (g := fun _ => 1099511627776) (n := n) (fun i hi => by
      show (if 0 ≤ i then az (rf b L y 0 i) else 0) ≤ 1099511627776
      rw [if_pos (Nat.zero_le _)]
      have e : rf b L y 0 i = b i := by unfold rf; show b i - 0 = _; omega
      rw [e]
      exact az_le (hb i hi).lo (hb i hi).hi)
    rw [sm_const] at a
    have : (n : Int) * 1099511627776 ≤ 6 * 1099511627776 := Int.mul_le_mul_of_nonneg_right (by omega) (by decide)
    omega
  | t + 1, ht, F => by
    have ih := norm_to H W hb (t := t) (by omega) (fun k hk => F k (by omega))
    have Ft := F t (by omega)
    obtain ⟨d1, d2⟩ := (W.rows t (by omega)).1.root
    have c := col_mul H W (t := t) (by omega) (q := fun i => qf L y i t) (z := fun _ => y t) (Z := az (y t)) (az_n _) (fun _ _ _ => Int.le_refl _) (fun i _ _ => (qf_is (W.ub i t) (Ft.ub.le (by decide))).2)
    have yd : 2 * (az (y t) * L t t) ≤ 2199023255552 * az (rf b L y t t) + L t t := by
      have q : az (y t) * L t t = az (y t * L t t) := by
        unfold az
        by_cases z : y t < 0
        · rw [if_pos z, if_pos (by have := Int.mul_le_mul_of_nonneg_right (show y t ≤ -1 by omega) (show 0 ≤ L t t by omega); omega)]; grind
        · rw [if_neg z, if_neg (by have := Int.mul_nonneg (show 0 ≤ y t by omega) (show 0 ≤ L t t by omega); omega)]
      have := Ft.R.lo; have := Ft.R.hi; have := az_lo (rf b L y t t); have := az_hi (rf b L y t t)
      rw [q]
      have := az_le (x := y t * L t t) (K := (2199023255552 * az (rf b L y t t) + L t t) / 2) (by omega) (by omega)
      omega
    have qs : sm (fun i => if t < i then az (qf L y i t) else 0) n ≤ az (rf b L y t t) + 3 := by
      generalize az (y t) * L t t = u at *
      generalize sm (fun i => if t < i then az (qf L y i t) else 0) n = v at *
      omega
    have e1 : sm (fun i => if t ≤ i then az (rf b L y t i) else 0) n = sm (fun i => if t + 1 ≤ i then az (rf b L y t i) else 0) n + az (rf b L y t t) := by
      rw [← sm_one (n := n) t (az (rf b L y t t)) (by omega), ← sm_add]
      refine sm_eq fun i hi => ?_
      show (if t ≤ i then az (rf b L y t i) else 0) = (if t + 1 ≤ i then az (rf b L y t i) else 0) + (if i = t then az (rf b L y t t) else 0)
      by_cases c : i = t
      · subst c; rw [if_pos (Nat.le_refl _), if_neg (by omega), if_pos rfl]; omega
      · rw [if_neg c]
        by_cases c2 : t ≤ i
        · rw [if_pos c2, if_pos (by omega)]; omega
        · rw [if_neg c2, if_neg (by omega)]; omega
    have e2 : sm (fun i => if t + 1 ≤ i then az (rf b L y (t + 1) i) else 0) n ≤ sm (fun i => if t + 1 ≤ i then az (rf b L y t i) else 0) n + sm (fun i => if t < i then az (qf L y i t) else 0) n := by
      rw [← sm_add]
      refine sm_le fun i hi => ?_
      show (if t + 1 ≤ i then az (rf b L y (t + 1) i) else 0) ≤ (if t + 1 ≤ i then az (rf b L y t i) else 0) + (if t < i then az (qf L y i t) else 0)
      by_cases c : t + 1 ≤ i
      · rw [if_pos c, if_pos c, if_pos (by omega), rf_succ]; exact az_sub _ _
      · rw [if_neg c, if_neg c, if_neg (by omega)]; omega
    omega
theorem rf_bd {m L : Nat → Nat → Int} {n : Nat} {b y : Nat → Int} (H : Heavy m n) (W : Whole m L n) (hb : ∀ i, i < n → Ab (b i) 1099511627776) {t i : Nat} (ht : t ≤ i) (hi : i < n) (F : ∀ k, k < t → Fw b L y k) : Ab (rf b L y t i) 6597069766680 := by
  have n6 := H.n6
  have s := norm_to H W hb (t := t) (by omega) F
  have k := sm_term (f := fun i => if t ≤ i then az (rf b L y t i) else 0) (n := n) (j := i) (fun k _ => by show 0 ≤ (if t ≤ k then az (rf b L y t k) else 0); split; exact az_n _; exact Int.le_refl _) hi
  have k2 : az (rf b L y t i) ≤ sm (fun i => if t ≤ i then az (rf b L y t i) else 0) n := by
    rw [if_pos ht] at k; exact k
  exact (az_ab (Int.le_refl _)).le (by omega)
theorem fsubs {m L : Nat → Nat → Int} {n : Nat} {b y : Nat → Int} (H : Heavy m n) (W : Whole m L n) (hb : ∀ i, i < n → Ab (b i) 1099511627776) {i : Nat} (hi : i < n) (F : ∀ k, k < i → Fw b L y k) : ∀ {t : Nat}, t ≤ i → subsS false (b i) (L i) y t = (rf b L y t i, false)
  | 0, _ => by
    have e : rf b L y 0 i = b i := by unfold rf; show b i - 0 = _; omega
    rw [e]; rfl
  | t + 1, ht => by
    have Ft := F t (by omega)
    obtain ⟨e, r⟩ := qf_is (W.ub i t) (Ft.ub.le (show (281474976710656 : Int) ≤ 576460752303423488 by decide))
    unfold subsS
    rw [fsubs H W hb hi F (t := t) (by omega)]
    dsimp only
    rw [e]
    dsimp only
    rw [sub_near (rf_bd H W hb (t := t) (by omega) hi (fun k hk => F k (by omega))) (prod_bd (W.ub i t) Ft.ub r (B := 281474976710657) (by decide)) (by decide) (by decide) (by decide), rf_succ]
theorem rf_same {b : Nat → Int} {L : Nat → Nat → Int} {y y' : Nat → Int} {t i : Nat} (h : ∀ k, k < t → y' k = y k) : rf b L y' t i = rf b L y t i := by
  unfold rf
  rw [sm_eq fun k hk => (by unfold qf; rw [h k hk] : qf L y' i k = qf L y i k)]
theorem fwd_good {m L : Nat → Nat → Int} {n : Nat} {b : Nat → Int} (H : Heavy m n) (W : Whole m L n) (hb : ∀ i, i < n → Ab (b i) 1099511627776) : ∀ {t : Nat}, t ≤ n → ∃ y, fwdS L b false t = (y, false) ∧ ∀ k, k < t → Fw b L y k
  | 0, _ => ⟨fun _ => 0, rfl, fun k hk => by omega⟩
  | t + 1, ht => by
    obtain ⟨y, e, F⟩ := fwd_good H W hb (t := t) (by omega)
    obtain ⟨d1, d2⟩ := (W.rows t (by omega)).1.root
    have rb := rf_bd H W hb (t := t) (Nat.le_refl _) (by omega) F
    obtain ⟨v, ev, R⟩ := div_big (a := rf b L y t t) (d := L t t) (rb.le (by decide)) d1 d2 (by have := rb.lo; have := rb.hi; constructor <;> omega)
    have vb : Ab v 281474976710656 := by
      have := rb.lo; have := rb.hi; have := R.lo; have := R.hi
      constructor
      · apply Classical.byContradiction
        intro c
        have c' : v ≤ -281474976710657 := by omega
        have := Int.mul_le_mul_of_nonneg_right c' (show 0 ≤ L t t by omega)
        omega
      · apply Classical.byContradiction
        intro c
        have c' : 281474976710657 ≤ v := by omega
        have := Int.mul_le_mul_of_nonneg_right c' (show 0 ≤ L t t by omega)
        omega
    have same : ∀ k, k < t → setF y t v k = y k := fun k hk => by unfold setF; rw [if_neg (by omega)]
    have here : setF y t v t = v := by unfold setF; rw [if_pos rfl]
    refine ⟨setF y t v, ?_, fun k hk => ?_⟩
    · unfold fwdS; rw [e]; dsimp only; rw [fsubs H W hb (by omega) F (Nat.le_refl _)]; dsimp only; rw [ev]
    · by_cases c : k < t
      · have e2 := rf_same (b := b) (L := L) (y := y) (y' := setF y t v) (t := k) (i := k) (fun j hj => same j (by omega))
        have Fk := F k c
        exact ⟨by rw [e2, same k c]; exact Fk.dv, by rw [e2, same k c]; exact Fk.R, by rw [same k c]; exact Fk.ub⟩
      · have ek : k = t := by omega
        subst ek
        have e2 := rf_same (b := b) (L := L) (y := y) (y' := setF y k v) (t := k) (i := k) same
        exact ⟨by rw [e2, here]; exact ev, by rw [e2, here]; exact R, by rw [here]; exact vb⟩
end Go.Proofs.Ytcnbcdnjogopdaa
