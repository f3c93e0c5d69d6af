/-
  The model's numbers, as Number's steps work them, for the seat YtoadcnhcfodkgaaGreatDoor. No Go text in sight.
-/
import Derived.Test.YtoadcnhcfodkgaaGreatDoorFldF
import Derived.Test.YtoadcnhcfodkgaaGreatDoorFTab
import Derived.Test.YtoadcnhcfodkgaaGreatDoorCSpec
namespace Go.Proofs.YtoadcnhcfodkgaaGreatDoor

def numOK (n m : Nat) : Bool := decide (nIdx n m < 27) && decide (partS false 1099511627776 (at0 (nIdx n m * 2)) 10000 = (fG n m, false)) && decide (partS false 1099511627776 (at0 (nIdx n m * 2 + 1)) 10000 = (fH n m, false)) &&
  (if n ≤ 2 then decide (nIdx n m < 5) && decide (partS false 1099511627776 (yr0 (nIdx n m * 2)) 10000 = (fGy n m, false)) && decide (partS false 1099511627776 (yr0 (nIdx n m * 2 + 1)) 10000 = (fHy n m, false)) else decide (5 ≤ nIdx n m))
theorem numOK_all : ((List.range 7).all fun n => (List.range (n + 1)).all fun m => n == 0 || numOK n m) = true := by decide +kernel
theorem numOK_at {n m : Nat} (h1 : 1 ≤ n) (h6 : n ≤ 6) (hm : m ≤ n) : numOK n m = true := by
  have h := List.all_eq_true.1 (List.all_eq_true.1 numOK_all n (List.mem_range.2 (by omega))) m (List.mem_range.2 (by omega))
  have z : (n == 0) = false := by simp; omega
  rw [z, Bool.false_or] at h
  exact h
theorem num_parts {n m : Nat} (h1 : 1 ≤ n) (h6 : n ≤ 6) (hm : m ≤ n) : nIdx n m < 27 ∧ partS false 1099511627776 (at0 (nIdx n m * 2)) 10000 = (fG n m, false) ∧ partS false 1099511627776 (at0 (nIdx n m * 2 + 1)) 10000 = (fH n m, false) := by
  have h := numOK_at h1 h6 hm
  unfold numOK at h
  simp only [Bool.and_eq_true, decide_eq_true_eq] at h
  exact ⟨h.1.1.1, h.1.1.2, h.1.2⟩
theorem num_low {n m : Nat} (h1 : 1 ≤ n) (h2 : n ≤ 2) (hm : m ≤ n) : nIdx n m < 5 ∧ partS false 1099511627776 (yr0 (nIdx n m * 2)) 10000 = (fGy n m, false) ∧ partS false 1099511627776 (yr0 (nIdx n m * 2 + 1)) 10000 = (fHy n m, false) := by
  have h := numOK_at h1 (by omega) hm
  unfold numOK at h
  rw [if_pos h2] at h
  simp only [Bool.and_eq_true, decide_eq_true_eq] at h
  exact ⟨h.2.1.1, h.2.1.2, h.2.2⟩
theorem num_high {n m : Nat} (h2 : ¬ n ≤ 2) (h6 : n ≤ 6) (hm : m ≤ n) : 5 ≤ nIdx n m := by
  have h := numOK_at (by omega) h6 hm
  unfold numOK at h
  rw [if_neg h2] at h
  simp only [Bool.and_eq_true, decide_eq_true_eq] at h
  exact h.2
/-- How many years a right tick is. -/
def yearS (t : Int) : Int := (divS false (cDay t) 401596622045184).1
theorem year_in {t : Int} (h0 : 0 ≤ t) (h1 : t ≤ 157766400000) : divS false (cDay t) 401596622045184 = (yearS t, false) ∧ 0 ≤ yearS t ∧ yearS t ≤ 5497558138880 := by
  have d1 : 0 ≤ cDay t ∧ cDay t ≤ 2007708232318976 := by unfold cDay rnd; omega
  obtain ⟨m, e, p1, p2, p3⟩ := partS_near (cDay t) 1099511627776 401596622045184 (numB_of ⟨by omega, by omega⟩) (by rfl) (by rfl) (by decide) (by
    rw [show sz 1099511627776 = 1099511627776 by rfl]
    have := sz_le (a := cDay t) (A := 2007708232318976) ⟨by omega, by omega⟩
    omega)
  have e' : divS false (cDay t) 401596622045184 = (m, false) := e
  have h : yearS t = m := by unfold yearS; rw [e']
  rw [h]
  exact ⟨e', p3 (by omega), by omega⟩
/-- What is added to a number in y years. -/
structure YearT (y a b x c : Int) : Prop where
  hm : mulS false y b = (x, false)
  ha : addS false a x = (c, false)
theorem year_g {y : Int} (y0 : 0 ≤ y) (y1 : y ≤ 5497558138880) {n m : Nat} (h : n ≤ 2) : YearT y (fG n m) (fGy n m) (mulS false y (fGy n m)).1 (gS y n m) := by
  obtain ⟨x, e, l, u⟩ := year_at y0 y1 (fGy_bd n m)
  have a := fGy_bd n m; have b := fG_bd n m
  have := a.lo; have := a.hi; have := b.lo; have := b.hi
  refine ⟨by rw [e], ?_⟩
  unfold gS
  rw [if_pos h, e]
  exact add_near (K := 32400000000000) (L := 200000000000) b ⟨by show _ ≤ x; omega, by show x ≤ _; omega⟩ (by decide) (by decide) (by decide)
theorem year_h {y : Int} (y0 : 0 ≤ y) (y1 : y ≤ 5497558138880) {n m : Nat} (h : n ≤ 2) : YearT y (fH n m) (fHy n m) (mulS false y (fHy n m)).1 (hS y n m) := by
  obtain ⟨x, e, l, u⟩ := year_at y0 y1 (fHy_bd n m)
  have a := fHy_bd n m; have b := fH_bd n m
  have := a.lo; have := a.hi; have := b.lo; have := b.hi
  refine ⟨by rw [e], ?_⟩
  unfold hS
  rw [if_pos h, e]
  exact add_near (K := 32400000000000) (L := 200000000000) b ⟨by show _ ≤ x; omega, by show x ≤ _; omega⟩ (by decide) (by decide) (by decide)
/-- What Number answers. -/
abbrev numIn (n m t : Int) : Prop := 1 ≤ n ∧ n ≤ 6 ∧ 0 ≤ m ∧ m ≤ n ∧ 0 ≤ t ∧ t ≤ 157766400000
def numS (bad : Bool) (n m t : Int) : (Int × Int) × Bool := if bad = false ∧ numIn n m t then ((gS (yearS t) n.toNat m.toNat, hS (yearS t) n.toNat m.toNat), false) else ((0, 0), true)
theorem numS_out {n m t : Int} (h : ¬ numIn n m t) : numS false n m t = ((0, 0), true) := if_neg (fun k => h k.2)
theorem numS_in {N M : Nat} {t : Int} (h1 : 1 ≤ N) (h6 : N ≤ 6) (hm : M ≤ N) (t0 : 0 ≤ t) (t1 : t ≤ 157766400000) : numS false (N : Int) (M : Int) t = ((gS (yearS t) N M, hS (yearS t) N M), false) := by
  unfold numS
  rw [if_pos ⟨rfl, by omega, by omega, by omega, by omega, t0, t1⟩, Int.toNat_natCast, Int.toNat_natCast]
end Go.Proofs.YtoadcnhcfodkgaaGreatDoor
