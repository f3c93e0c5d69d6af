/-
  The triangle of P, D and Q: all steps of it are good, by crude bounds, for the seat YtoadcnhcfodkgaaGreatDoor. No Go text in sight.
-/
import Derived.Test.YtoadcnhcfodkgaaGreatDoorFcA
import Derived.Test.YtoadcnhcfodkgaaGreatDoorFEarth
namespace Go.Proofs.YtoadcnhcfodkgaaGreatDoor

/-! ### The roots -/
def crootOK (k m : Nat) : Bool := decide ((rootS false ((k : Int) + 1) (m : Int)).2 = false) && decide ((rootS false ((k : Int) + 1 - 1) (m : Int)).2 = false) && decide (divS false (rootS false ((k : Int) + 1 - 1) (m : Int)).1 (rootS false ((k : Int) + 1) (m : Int)).1 = (fA (k + 1) m, false)) &&
  decide ((partS false 1099511627776 (2 * ((k : Int) + 1) - 1) 1).2 = false) && decide (divS false (partS false 1099511627776 (2 * ((k : Int) + 1) - 1) 1).1 (rootS false ((k : Int) + 1) (m : Int)).1 = (fB (k + 1) m, false))
theorem crootOK_all : ((List.range 6).all fun k => (List.range (k + 1)).all fun m => crootOK k m) = true := by decide +kernel
theorem croot_t {k m : Nat} (hk : k < 6) (hm : m < k + 1) : Nonempty (RootT ((k : Int) + 1) (m : Int) (fA (k + 1) m) (fB (k + 1) m)) := by
  have h := List.all_eq_true.1 (List.all_eq_true.1 crootOK_all k (List.mem_range.2 hk)) m (List.mem_range.2 hm)
  unfold crootOK at h
  simp only [Bool.and_eq_true, decide_eq_true_eq] at h
  exact ⟨⟨_, _, _, Prod.ext rfl h.1.1.1.1, Prod.ext rfl h.1.1.1.2, h.1.1.2, Prod.ext rfl h.1.2, h.2⟩⟩
def cdiagOK (k : Nat) : Bool := decide ((partS false 1099511627776 (2 * ((k : Int) + 1) - 1) (2 * ((k : Int) + 1))).2 = false) && decide (sqrtS false (partS false 1099511627776 (2 * ((k : Int) + 1) - 1) (2 * ((k : Int) + 1))).1 = (fJ (k + 1), false))
theorem cdiagOK_all : ((List.range 6).all fun k => k == 0 || cdiagOK k) = true := by decide +kernel
theorem cdiag_t {k : Nat} (h1 : 1 ≤ k) (hk : k < 6) : ∃ p, partS false 1099511627776 (2 * ((k : Int) + 1) - 1) (2 * ((k : Int) + 1)) = (p, false) ∧ sqrtS false p = (fJ (k + 1), false) := by
  have h := List.all_eq_true.1 cdiagOK_all k (List.mem_range.2 hk)
  have z : (k == 0) = false := by simp; omega
  rw [z, Bool.false_or] at h
  unfold cdiagOK at h
  simp only [Bool.and_eq_true, decide_eq_true_eq] at h
  exact ⟨_, Prod.ext rfl h.1, h.2⟩
/-! ### Bounds by degree -/
def fcA : Nat → Int
  | 0 => 1099511627776
  | 1 => 3738339534470
  | n + 2 => 17 * fcA (n + 1) / 5 + fcA n + 12
def fcB : Nat → Int
  | 0 => 0
  | 1 => 3738339534470
  | n + 2 => 17 * (fcA (n + 1) + fcB (n + 1)) / 5 + fcB n + 20
theorem fcA_le {n : Nat} (h : n ≤ 5) : fcA n ≤ 18014398509481984 := by
  obtain rfl | rfl | rfl | rfl | rfl | rfl : n = 0 ∨ n = 1 ∨ n = 2 ∨ n = 3 ∨ n = 4 ∨ n = 5 := by omega
  all_goals decide +kernel
theorem fcB_le {n : Nat} (h : n ≤ 5) : fcB n ≤ 18014398509481984 := by
  obtain rfl | rfl | rfl | rfl | rfl | rfl : n = 0 ∨ n = 1 ∨ n = 2 ∨ n = 3 ∨ n = 4 ∨ n = 5 := by omega
  all_goals decide +kernel
theorem Sb.le {A B A' B' : Int} {x : V3} (h : Sb A B x) (ha : A ≤ A') (hb : B ≤ B') : Sb A' B' x := ⟨by have := h.a0; omega, by have := h.b0; omega, h.p.le ha, h.d.le hb, h.q.le ha⟩
theorem Sb.none : Sb 0 0 (0, 0, 0) := ⟨by decide, by decide, ⟨by decide, by decide⟩, ⟨by decide, by decide⟩, ⟨by decide, by decide⟩⟩
theorem Sb.first : Sb 1099511627776 0 (1099511627776, 0, 0) := ⟨by decide, by decide, ⟨by decide, by decide⟩, ⟨by decide, by decide⟩, ⟨by decide, by decide⟩⟩
theorem ctri_zero (c s : Int) : ∀ n m, n < m → tri c s n m = (0, 0, 0)
  | 0, m, h => by unfold tri; rw [if_neg (by omega)]
  | 1, m, h => by unfold tri; rw [if_neg (by omega), if_neg (by omega)]
  | n + 2, m, h => by unfold tri; rw [if_neg (by omega), if_neg (by omega)]
theorem cent_zero {c b a x y z : Int} (hc : Ab c 1099511627776) (hb : Ab b 3738339534438) (ha : Ab a 1099511627776) (hx : x = 0) (hy : y = 0) (T : EntQ c b a x y z) : z = 0 := by
  subst hx hy
  have nul (k : Int) (hk : Ab k 4398046511104) (v : Int) (e : mulS false k 0 = (v, false)) : v = 0 := by
    obtain ⟨v', e', q, _⟩ := mul_x (a := k) (b := 0) (K := 4398046511104) (L := 0) (B := 1) hk ⟨by decide, by decide⟩ (by decide) (by decide) (by decide) (by decide)
    rw [e] at e'
    injection e' with e' _
    subst e'
    have := q.lo; have := q.hi
    omega
  have h1 := nul c (hc.le (by decide)) _ T.h1
  have h2 := T.h2
  rw [h1] at h2
  have h2 := nul b (hb.le (by decide)) _ h2
  have h3 := nul a (ha.le (by decide)) _ T.h3
  have h4 := T.h4
  rw [h2, h3] at h4
  have e := sub_near (a := 0) (b := 0) (K := 0) (L := 0) ⟨by decide, by decide⟩ ⟨by decide, by decide⟩ (by decide) (by decide) (by decide)
  rw [e] at h4
  injection h4 with h4 _
  omega
section
variable {c s : Int} (hc : Ab c 1099511627776) (hs : Ab s 1099511627776)
include hc hs
theorem tri_sb : ∀ n, n ≤ 6 → ∀ m, Sb (fcA n) (fcB n) (tri c s n m)
  | 0, _, m => by
    unfold tri
    split
    · exact Sb.first
    · exact Sb.none.le (by decide) (by decide)
  | 1, _, m => by
    unfold tri
    split
    · obtain ⟨z, e, S, _⟩ := ent_c hc hs (fB_34 1 0) (fA_one 1 0) Sb.first Sb.none (by decide) (by decide) (by decide) (by decide)
      rw [e]
      exact S.le (by decide) (by decide)
    · split
      · exact ⟨by decide, by decide, hs.le (by decide), hc.le (by decide), show Ab 1099511627776 (fcA 1) from ⟨by decide, by decide⟩⟩
      · exact Sb.none.le (by decide) (by decide)
  | n + 2, hn, m => by
    have X := tri_sb (n + 1) (by omega)
    have Y := tri_sb n (by omega)
    have x1 := fcA_le (n := n + 1) (by omega); have x2 := fcB_le (n := n + 1) (by omega)
    have y1 := fcA_le (n := n) (by omega); have y2 := fcB_le (n := n) (by omega)
    have y3 := (Y 0).a0; have y4 := (Y 0).b0
    have x3 := (X 0).a0; have x4 := (X 0).b0
    have e1 : fcA (n + 2) = 17 * fcA (n + 1) / 5 + fcA n + 12 := by rw [fcA]
    have e2 : fcB (n + 2) = 17 * (fcA (n + 1) + fcB (n + 1)) / 5 + fcB n + 20 := by rw [fcB]
    unfold tri
    split
    · obtain ⟨z, e, S, _⟩ := ent_c hc hs (fB_34 (n + 2) m) (fA_one (n + 2) m) (X m) (Y m) x1 x2 y1 y2
      rw [e]
      exact S.le (by omega) (by omega)
    · split
      · obtain ⟨p, hp, hj⟩ := cdiag_t (k := n + 1) (by omega) (by omega)
        obtain ⟨z, e, S, _⟩ := dia_c hp hj hc hs (fJ_34 _) (X (n + 1)) x1 x2
        rw [e]
        exact S.le (by omega) (by omega)
      · exact Sb.none.le (by omega) (by omega)
theorem cent_at {k m : Nat} (hk : k < 6) (hm : m < k + 1) :
    Nonempty (EntT c s (fB (k + 1) m) (fA (k + 1) m) (tri c s k m).1 (tri c s k m).2.1 (low (fun n m => (tri c s n m).1) k m) (low (fun n m => (tri c s n m).2.1) k m) (tri c s (k + 1) m).1 (tri c s (k + 1) m).2.1) ∧
    Nonempty (EntQ c (fB (k + 1) m) (fA (k + 1) m) (tri c s k m).2.2 (low (fun n m => (tri c s n m).2.2) k m) (tri c s (k + 1) m).2.2) := by
  cases k with
  | zero =>
    obtain rfl : m = 0 := by omega
    obtain ⟨z, e, _, T, U⟩ := ent_c hc hs (fB_34 1 0) (fA_one 1 0) Sb.first Sb.none (by decide) (by decide) (by decide) (by decide)
    have e1 : tri c s (0 + 1) 0 = z := by unfold tri; rw [if_pos rfl, e]
    rw [e1]
    exact ⟨T, U⟩
  | succ n =>
    have X := tri_sb hc hs (n + 1) (by omega)
    have Y := tri_sb hc hs n (by omega)
    obtain ⟨z, e, _, T, U⟩ := ent_c hc hs (fB_34 (n + 2) m) (fA_one (n + 2) m) (X m) (Y m) (fcA_le (by omega)) (fcB_le (by omega)) (fcA_le (by omega)) (fcB_le (by omega))
    have e1 : tri c s (n + 1 + 1) m = z := by rw [tri, if_pos (by omega), e]
    rw [e1]
    have l (F : Nat → Nat → Int) (hF : n < m → F n m = 0) : low F (n + 1) m = F n m := by
      unfold low
      split
      · rfl
      · exact (hF (by omega)).symm
    rw [l (fun n m => (tri c s n m).1) (fun h => by rw [ctri_zero c s n m h]), l (fun n m => (tri c s n m).2.1) (fun h => by rw [ctri_zero c s n m h]), l (fun n m => (tri c s n m).2.2) (fun h => by rw [ctri_zero c s n m h])]
    exact ⟨T, U⟩
theorem cqz : ∀ n, n ≤ 6 → (tri c s n 0).2.2 = 0
  | 0, _ => rfl
  | n + 1, hn => by
    obtain ⟨T⟩ := (cent_at hc hs (k := n) (m := 0) (by omega) (by omega)).2
    refine cent_zero hc (fB_34 _ _) (fA_one _ _) (cqz n (by omega)) ?_ T
    unfold low
    split
    · exact cqz (n - 1) (by omega)
    · rfl
theorem ctri : Nonempty (Tri c s (fun n m => (tri c s n m).1) (fun n m => (tri c s n m).2.1) (fun n m => (tri c s n m).2.2)) := by
  have e11 : tri c s 1 1 = (s, c, 1099511627776) := by unfold tri; rw [if_neg (by decide), if_pos rfl]
  have i64 {x K : Int} (h : Ab x K) (hK : K ≤ 4611686018427387904) : I64 x := ⟨by have := h.lo; omega, by have := h.hi; omega⟩
  have a6 : ∀ n, n ≤ 6 → fcA n ≤ 4611686018427387904 ∧ fcB n ≤ 4611686018427387904 := by
    intro n h
    obtain rfl | rfl | rfl | rfl | rfl | rfl | rfl : n = 0 ∨ n = 1 ∨ n = 2 ∨ n = 3 ∨ n = 4 ∨ n = 5 ∨ n = 6 := by omega
    all_goals decide +kernel
  refine ⟨⟨rfl, rfl, rfl, by rw [e11], by rw [e11], by rw [e11], cqz hc hs, fun k m => fA (k + 1) m, fun k m => fB (k + 1) m, fun k m hk hm => Classical.choice (croot_t hk hm), fun k m hk hm => Classical.choice (cent_at hc hs hk hm).1, fun k m hk hm => Classical.choice (cent_at hc hs hk hm).2, fun k h1 hk => Classical.choice ?_,
    fun n m hn => i64 (tri_sb hc hs n hn m).p (a6 n hn).1, fun n m hn => i64 (tri_sb hc hs n hn m).d (a6 n hn).2, fun n m hn => i64 (tri_sb hc hs n hn m).q (a6 n hn).1⟩⟩
  obtain ⟨p, hp, hj⟩ := cdiag_t h1 hk
  obtain ⟨j, rfl⟩ : ∃ j, k = j + 1 := ⟨k - 1, by omega⟩
  obtain ⟨z, e, _, T⟩ := dia_c hp hj hc hs (fJ_34 _) (tri_sb hc hs (j + 1) (by omega) (j + 1)) (fcA_le (by omega)) (fcB_le (by omega))
  have e1 : tri c s (j + 1 + 1) (j + 1 + 1) = z := by rw [tri, if_neg (by omega), if_pos rfl, e]
  rw [e1]
  exact T
end
end Go.Proofs.YtoadcnhcfodkgaaGreatDoor
