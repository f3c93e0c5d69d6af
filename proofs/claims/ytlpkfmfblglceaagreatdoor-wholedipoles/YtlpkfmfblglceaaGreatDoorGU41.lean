/- A part. -/
import Derived.Test.YtlpkfmfblglceaaGreatDoorGU40
namespace Go.Proofs.YtlpkfmfblglceaaGreatDoor
open Go.RowKit
structure Agt (n r : Int) : Prop where
 lo : -219902325555 ≤ n
 hi : n ≤ 219902325555
 up : 0 < n → r ≤ 0
 dn : n < 0 → 0 ≤ r
theorem agt_0 (r : Int) : Agt 0 r := ⟨by decide, by decide, fun h => by omega, fun h => by omega⟩
theorem sz_ge (x : Int) : 0 ≤ sz x := by unfold sz; split <;> omega
theorem mul_agt {r n : Int} {c : Bool} (h : mulS false r (-274877906944) = (n, c)) : Agt (clampV n) r := by
 have hs : (r < 0 ∧ 0 ≤ n) ∨ (0 ≤ r ∧ n ≤ 0) ∨ n = 0 := by
  cases ht : tk false [r, -274877906944]
  ·rw [mulS_no ht] at h
   cases h
   exact .inr (.inr rfl)
  ·rw [mulS_yes ht] at h
   have s0 : 0 ≤ (sz r * sz (-274877906944) + 549755813888) / 1099511627776 := by
    have := Int.mul_nonneg (sz_ge r) (sz_ge (-274877906944))
    omega
   generalize (sz r * sz (-274877906944) + 549755813888) / 1099511627776 = z at h s0
   unfold out sgnd at h
   have h1 := congrArg Prod.fst h
   dsimp only at h1
   rw [show decide ((-274877906944 : Int) < 0) = true from rfl] at h1
   by_cases k : r < 0
   ·rw [decide_eq_true k] at h1
    simp only [bne_self_eq_false, Bool.false_eq_true, if_false] at h1
    split at h1 <;> omega
   ·rw [decide_eq_false k] at h1
    simp only [Bool.false_bne, if_true] at h1
    split at h1 <;> omega
 unfold clampV
 constructor <;> (repeat' split) <;> omega
theorem mul_flag {b : Bool} {x y n : Int} (h : mulS b x y = (n, false)) : b = false := by
 cases b
 ·rfl
 ·rw [mulS_no (show tk true _ = false from rfl)] at h
  cases h
theorem dip_agt (d : Dri) : Agt (dipV false d).1.1 (rateT d).1 ∧ Agt (dipV false d).1.2.1 (rateT d).2.1 ∧ Agt (dipV false d).1.2.2.1 (rateT d).2.2 := by
 unfold dipV
 cases d.1
 ·exact ⟨agt_0 _, agt_0 _, agt_0 _⟩
 ·show Agt (clampV _) _ ∧ Agt (clampV _) _ ∧ Agt (clampV _) _
  generalize rateT d = v
  unfold vScaleS
  obtain ⟨x, c1, e1⟩ : ∃ x c, mulS false v.1 (-274877906944) = (x, c) := ⟨_, _, rfl⟩
  obtain ⟨y, c2, e2⟩ : ∃ x c, mulS c1 v.2.1 (-274877906944) = (x, c) := ⟨_, _, rfl⟩
  obtain ⟨s, c3, e3⟩ : ∃ x c, mulS c2 v.2.2 (-274877906944) = (x, c) := ⟨_, _, rfl⟩
  simp only [e1, e2, e3]
  cases c3
  ·obtain rfl := mul_flag e3
   obtain rfl := mul_flag e2
   exact ⟨mul_agt e1, mul_agt e2, mul_agt e3⟩
  ·exact ⟨agt_0 _, agt_0 _, agt_0 _⟩
theorem coil_agt {F : Fs} (hF : FsIs F) (c : Cra) : Agt (coilW F c).1 (rateT (cDrif c)).1 ∧ Agt (coilW F c).2.1 (rateT (cDrif c)).2.1 ∧ Agt (coilW F c).2.2.1 (rateT (cDrif c)).2.2 ∧ ((cPlan c).1 ≠ 0 → coilW F c = zero3) := by
 unfold coilW
 rw [hF.dip]
 by_cases h : (cPlan c).1 = 0
 ·rw [decide_eq_true h]
  obtain ⟨h1, h2, h3⟩ := dip_agt (cDrif c)
  exact ⟨h1, h2, h3, fun k => absurd h k⟩
 ·rw [decide_eq_false h]
  exact ⟨agt_0 _, agt_0 _, agt_0 _, fun _ => rfl⟩
theorem cnt_at (bad : Bool) {m : Int} (h0 : -219902325555 ≤ m) (h1 : m ≤ 219902325555) : -2000 ≤ (tcS (partS bad m 10000 1099511627776)).1 ∧ (tcS (partS bad m 10000 1099511627776)).1 ≤ 2000 ∧ (0 ≤ m → 0 ≤ (tcS (partS bad m 10000 1099511627776)).1) ∧ (m ≤ 0 → (tcS (partS bad m 10000 1099511627776)).1 ≤ 0) := by
 cases ht : tk bad [m, 10000, 1099511627776]
 ·rw [partS_no ht]
  exact ⟨by decide, by decide, fun _ => by decide, fun _ => by decide⟩
 ·rw [partS_yes ht (by decide)]
  have hz : sz m * sz 10000 = sz m * 10000 := rfl
  have e : rnd (sz m * sz 10000) (sz 1099511627776) = (sz m * 10000 + 549755813888) / 1099511627776 := rfl
  rw [e]
  have hs : sz m ≤ 219902325555 := by unfold sz; split <;> omega
  have hp := sz_ge m
  have hm0 : m = 0 → sz m = 0 := by rintro rfl; rfl
  generalize hzz : (sz m * 10000 + 549755813888) / 1099511627776 = z
  have z0 : 0 ≤ z := by omega
  have z1 : z ≤ 2000 := by omega
  have zz : m = 0 → z = 0 := fun k => by have := hm0 k; omega
  rw [show decide ((10000 : Int) < 0) = false from rfl, show decide ((1099511627776 : Int) < 0) = false from rfl]
  by_cases k : m < 0
  ·rw [decide_eq_true k]
   have e2 : out z ((true != false) != false) = (-z, false) := by
    unfold out sgnd
    simp
    omega
   rw [e2, cS_in (inR_iff.2 ⟨by show -32768 ≤ -z; omega, by show -z ≤ 32767; omega⟩)]
   exact ⟨by show -2000 ≤ -z; omega, by show -z ≤ 2000; omega, fun q => by omega, fun _ => by show -z ≤ 0; omega⟩
  ·rw [decide_eq_false k]
   have e2 : out z ((false != false) != false) = (z, false) := by
    unfold out sgnd
    simp
    omega
   rw [e2, cS_in (inR_iff.2 ⟨by show -32768 ≤ z; omega, by show z ≤ 32767; omega⟩)]
   exact ⟨by show -2000 ≤ z; omega, z1, fun _ => z0, fun q => by show z ≤ 0; have := zz (by omega); omega⟩
theorem dipAt_of {bad : Bool} {m r md : Int} (h : Agt m r) (hz : md ≠ 0 → m = 0) : DipAt (tcS (partS bad m 10000 1099511627776)).1 r md := by
 obtain ⟨a, b, c, d⟩ := cnt_at bad h.lo h.hi
 have hu := h.up
 have hd := h.dn
 refine ⟨b, a, fun k => ?_, fun k => ?_, fun k => ?_⟩
 ·by_cases q : 0 < m
  ·exact hu q
  ·have := d (by omega); omega
 ·by_cases q : m < 0
  ·exact hd q
  ·have := c (by omega); omega
 ·by_cases q : md = 0
  ·exact q
  ·have e := hz q
   have := c (by omega)
   have := d (by omega)
   omega
theorem dipAt_0 (r md : Int) : DipAt 0 r md := ⟨by decide, by decide, fun h => by omega, fun h => by omega, fun h => absurd rfl h⟩
theorem dip_all {F : Fs} (hF : FsIs F) : HeldAll F DipHeld := by
 intro c t b _ _ _ k
 generalize (stepF F c t b).1 = d
 obtain ⟨h1, h2, h3, hz⟩ := coil_agt hF d
 unfold DipHeld
 show DipAt (tlC (qT (q4T (cGues d))) (mT (coilW F d))).2.1 (rateT (cDrif d)).1 _ ∧ DipAt (tlC (qT (q4T (cGues d))) (mT (coilW F d))).2.2.1 (rateT (cDrif d)).2.1 _ ∧ DipAt (tlC (qT (q4T (cGues d))) (mT (coilW F d))).2.2.2 (rateT (cDrif d)).2.2 _
 unfold tlC
 dsimp only
 split
 ·exact ⟨dipAt_0 _ _, dipAt_0 _ _, dipAt_0 _ _⟩
 ·exact ⟨dipAt_of h1 (fun k => by rw [hz k]; rfl), dipAt_of h2 (fun k => by rw [hz k]; rfl), dipAt_of h3 (fun k => by rw [hz k]; rfl)⟩
end Go.Proofs.YtlpkfmfblglceaaGreatDoor
