/-
  bdot's steps and the reference's are the same, for the seat YtoadcnhcfodkgaaGreatDoor. No Go text in sight.
-/
import Derived.Test.YtoadcnhcfodkgaaGreatDoorBdRSpec
import Derived.Test.YtoadcnhcfodkgaaGreatDoorVNear
namespace Go.Proofs.YtoadcnhcfodkgaaGreatDoor
open Go.RowKit

theorem part_true (a p q : Int) : partS true a p q = (0, true) := partS_no (tk_true _)
theorem add_in {bad : Bool} {a b v : Int} (h : addS bad a b = (v, false)) : bad = false ∧ addS false a b = (v, false) := by
  cases bad
  · exact ⟨rfl, h⟩
  · rw [addS_true] at h; cases h
theorem sub_in {bad : Bool} {a b v : Int} (h : subS bad a b = (v, false)) : bad = false ∧ subS false a b = (v, false) := by
  cases bad
  · exact ⟨rfl, h⟩
  · rw [subS_true] at h; cases h
theorem part_in {bad : Bool} {a p q v : Int} (h : partS bad a p q = (v, false)) : bad = false ∧ partS false a p q = (v, false) := by
  cases bad
  · exact ⟨rfl, h⟩
  · rw [part_true] at h; cases h
theorem mul_in {bad : Bool} {a b v : Int} (h : mulS bad a b = (v, false)) : bad = false ∧ mulS false a b = (v, false) := by
  cases bad
  · exact ⟨rfl, h⟩
  · rw [mulS_true] at h; cases h
theorem add_nil {b v : Int} (h : addS false b 0 = (v, false)) : v = b := by
  unfold addS at h
  split at h
  · unfold gv at h
    rw [Int.add_zero] at h
    cases n : numB b
    · rw [n] at h; cases h
    · rw [n] at h; cases h; rfl
  · cases h
theorem vSub_in {bad : Bool} {p q v : V3} (h : vSubS bad p q = (v, false)) : bad = false ∧ subS false p.1 q.1 = (v.1, false) ∧ subS false p.2.1 q.2.1 = (v.2.1, false) ∧ subS false p.2.2 q.2.2 = (v.2.2, false) := by
  unfold vSubS at h
  obtain ⟨x, c1, e1⟩ : ∃ x c, subS bad p.1 q.1 = (x, c) := ⟨_, _, rfl⟩
  obtain ⟨y, c2, e2⟩ : ∃ x c, subS c1 p.2.1 q.2.1 = (x, c) := ⟨_, _, rfl⟩
  obtain ⟨z, c3, e3⟩ : ∃ x c, subS c2 p.2.2 q.2.2 = (x, c) := ⟨_, _, rfl⟩
  simp only [e1, e2, e3] at h
  cases c3
  · rw [soundS_no] at h
    cases h
    obtain ⟨rfl, e3⟩ := sub_in e3
    obtain ⟨rfl, e2⟩ := sub_in e2
    obtain ⟨rfl, e1⟩ := sub_in e1
    exact ⟨rfl, e1, e2, e3⟩
  · rw [soundS_yes] at h; cases h
theorem vAdd_in {bad : Bool} {p q v : V3} (h : vAddS bad p q = (v, false)) : bad = false ∧ addS false p.1 q.1 = (v.1, false) ∧ addS false p.2.1 q.2.1 = (v.2.1, false) ∧ addS false p.2.2 q.2.2 = (v.2.2, false) := by
  unfold vAddS at h
  obtain ⟨x, c1, e1⟩ : ∃ x c, addS bad p.1 q.1 = (x, c) := ⟨_, _, rfl⟩
  obtain ⟨y, c2, e2⟩ : ∃ x c, addS c1 p.2.1 q.2.1 = (x, c) := ⟨_, _, rfl⟩
  obtain ⟨z, c3, e3⟩ : ∃ x c, addS c2 p.2.2 q.2.2 = (x, c) := ⟨_, _, rfl⟩
  simp only [e1, e2, e3] at h
  cases c3
  · rw [soundS_no] at h
    cases h
    obtain ⟨rfl, e3⟩ := add_in e3
    obtain ⟨rfl, e2⟩ := add_in e2
    obtain ⟨rfl, e1⟩ := add_in e1
    exact ⟨rfl, e1, e2, e3⟩
  · rw [soundS_yes] at h; cases h
theorem bpart_in {bad : Bool} {a v : V3} {p q : Int} (h : bpartS bad a p q = (v, false)) : bad = false ∧ partS false a.1 p q = (v.1, false) ∧ partS false a.2.1 p q = (v.2.1, false) ∧ partS false a.2.2 p q = (v.2.2, false) := by
  unfold bpartS at h
  obtain ⟨x, c1, e1⟩ : ∃ x c, partS bad a.1 p q = (x, c) := ⟨_, _, rfl⟩
  obtain ⟨y, c2, e2⟩ : ∃ x c, partS c1 a.2.1 p q = (x, c) := ⟨_, _, rfl⟩
  obtain ⟨z, c3, e3⟩ : ∃ x c, partS c2 a.2.2 p q = (x, c) := ⟨_, _, rfl⟩
  simp only [e1, e2, e3] at h
  cases h
  obtain ⟨rfl, e3⟩ := part_in e3
  obtain ⟨rfl, e2⟩ := part_in e2
  obtain ⟨rfl, e1⟩ := part_in e1
  exact ⟨rfl, e1, e2, e3⟩
theorem vSub_of {p q v : V3} (e1 : subS false p.1 q.1 = (v.1, false)) (e2 : subS false p.2.1 q.2.1 = (v.2.1, false)) (e3 : subS false p.2.2 q.2.2 = (v.2.2, false)) : vSubS false p q = (v, false) := by
  unfold vSubS
  simp only [e1, e2, e3, soundS_no]
theorem vAdd_of {p q v : V3} (e1 : addS false p.1 q.1 = (v.1, false)) (e2 : addS false p.2.1 q.2.1 = (v.2.1, false)) (e3 : addS false p.2.2 q.2.2 = (v.2.2, false)) : vAddS false p q = (v, false) := by
  unfold vAddS
  simp only [e1, e2, e3, soundS_no]
theorem bpart_of {a v : V3} {p q : Int} (e1 : partS false a.1 p q = (v.1, false)) (e2 : partS false a.2.1 p q = (v.2.1, false)) (e3 : partS false a.2.2 p q = (v.2.2, false)) : bpartS false a p q = (v, false) := by
  unfold bpartS
  simp only [e1, e2, e3]
/-- One part of a Rate, where all goes well. -/
def PartG (b l r t R : Int) : Prop := ∃ x y z u, subS false b l = (x, false) ∧ partS false x 1000 t = (y, false) ∧ subS false y r = (z, false) ∧ partS false z t (t + 2000) = (u, false) ∧ addS false r u = (R, false)
theorem lean_in {bad : Bool} {d : Dr} {v R : V3} {t : Int} (h : leanS bad d v t = (R, false)) :
    bad = false ∧ PartG v.1 d.2.2.1 d.2.2.2.2.2.1 t R.1 ∧ PartG v.2.1 d.2.2.2.1 d.2.2.2.2.2.2.1 t R.2.1 ∧ PartG v.2.2 d.2.2.2.2.1 d.2.2.2.2.2.2.2 t R.2.2 := by
  unfold leanS at h
  obtain ⟨x, c1, e1⟩ : ∃ x c, vSubS bad v (d.2.2.1, d.2.2.2.1, d.2.2.2.2.1) = (x, c) := ⟨_, _, rfl⟩
  obtain ⟨y, c2, e2⟩ : ∃ y c, bpartS c1 x 1000 t = (y, c) := ⟨_, _, rfl⟩
  obtain ⟨z, c3, e3⟩ : ∃ z c, vSubS c2 y d.2.2.2.2.2 = (z, c) := ⟨_, _, rfl⟩
  obtain ⟨u, c4, e4⟩ : ∃ u c, bpartS c3 z t (t + 2000) = (u, c) := ⟨_, _, rfl⟩
  obtain ⟨s, c5, e5⟩ : ∃ s c, vAddS c4 d.2.2.2.2.2 u = (s, c) := ⟨_, _, rfl⟩
  simp only [e1, e2, e3, e4, e5] at h
  cases h
  obtain ⟨rfl, q0, q1, q2⟩ := vAdd_in e5
  obtain ⟨rfl, u0, u1, u2⟩ := bpart_in e4
  obtain ⟨rfl, z0, z1, z2⟩ := vSub_in e3
  obtain ⟨rfl, y0, y1, y2⟩ := bpart_in e2
  obtain ⟨rfl, x0, x1, x2⟩ := vSub_in e1
  exact ⟨rfl, ⟨_, _, _, _, x0, y0, z0, u0, q0⟩, ⟨_, _, _, _, x1, y1, z1, u1, q1⟩, ⟨_, _, _, _, x2, y2, z2, u2, q2⟩⟩
theorem lean_of {d : Dr} {v R : V3} {t : Int} (h0 : PartG v.1 d.2.2.1 d.2.2.2.2.2.1 t R.1) (h1 : PartG v.2.1 d.2.2.2.1 d.2.2.2.2.2.2.1 t R.2.1) (h2 : PartG v.2.2 d.2.2.2.2.1 d.2.2.2.2.2.2.2 t R.2.2) : leanS false d v t = (R, false) := by
  obtain ⟨x0, y0, z0, u0, a0, b0, c0, d0, e0⟩ := h0
  obtain ⟨x1, y1, z1, u1, a1, b1, c1, d1, e1⟩ := h1
  obtain ⟨x2, y2, z2, u2, a2, b2, c2, d2, e2⟩ := h2
  unfold leanS
  rw [vSub_of (v := (x0, x1, x2)) a0 a1 a2]
  simp only [bpart_of (a := (x0, x1, x2)) (v := (y0, y1, y2)) b0 b1 b2, vSub_of (p := (y0, y1, y2)) (q := d.2.2.2.2.2) (v := (z0, z1, z2)) c0 c1 c2, bpart_of (a := (z0, z1, z2)) (v := (u0, u1, u2)) d0 d1 d2, vAdd_of (p := d.2.2.2.2.2) (q := (u0, u1, u2)) (v := R) e0 e1 e2]
/-- One part by the reference. -/
def refPart (bad : Bool) (b l r t : Int) : Int × Bool :=
  let r4 := subS bad b l; let r5 := partS r4.2 r4.1 1000 t; let r6 := subS r5.2 r5.1 r; let r7 := partS r6.2 r6.1 t (t + 2000); addS r7.2 r r7.1
theorem rpart_in {bad : Bool} {b l r t R : Int} (h : refPart bad b l r t = (R, false)) : bad = false ∧ PartG b l r t R := by
  unfold refPart at h
  obtain ⟨x, c1, e1⟩ : ∃ x c, subS bad b l = (x, c) := ⟨_, _, rfl⟩
  obtain ⟨y, c2, e2⟩ : ∃ y c, partS c1 x 1000 t = (y, c) := ⟨_, _, rfl⟩
  obtain ⟨z, c3, e3⟩ : ∃ z c, subS c2 y r = (z, c) := ⟨_, _, rfl⟩
  obtain ⟨u, c4, e4⟩ : ∃ u c, partS c3 z t (t + 2000) = (u, c) := ⟨_, _, rfl⟩
  simp only [e1, e2, e3, e4] at h
  obtain ⟨rfl, q0⟩ := add_in h
  obtain ⟨rfl, u0⟩ := part_in e4
  obtain ⟨rfl, z0⟩ := sub_in e3
  obtain ⟨rfl, y0⟩ := part_in e2
  obtain ⟨rfl, x0⟩ := sub_in e1
  exact ⟨rfl, _, _, _, _, x0, y0, z0, u0, q0⟩
theorem rpart_of {b l r t R : Int} (h : PartG b l r t R) : refPart false b l r t = (R, false) := by
  obtain ⟨x0, y0, z0, u0, a0, b0, c0, d0, e0⟩ := h
  unfold refPart
  simp only [a0, b0, c0, d0, e0]
def zeroD : Dr := (false, 0, 0, 0, 0, 0, 0, 0)
/-- A field that is of numbers. -/
def NumV (v : V3) : Prop := addS false v.1 0 = (v.1, false) ∧ addS false v.2.1 0 = (v.2.1, false) ∧ addS false v.2.2 0 = (v.2.2, false)
theorem num_in {bad : Bool} {v r : V3} (h : vAddS bad v (0, 0, 0) = (r, false)) : bad = false ∧ r = v ∧ NumV v := by
  obtain ⟨rfl, h0, h1, h2⟩ := vAdd_in h
  have k0 := add_nil h0
  have k1 := add_nil h1
  have k2 := add_nil h2
  obtain ⟨r0, r1, r2⟩ := r
  obtain ⟨v0, v1, v2⟩ := v
  dsimp only at k0 k1 k2
  subst k0 k1 k2
  exact ⟨rfl, rfl, h0, h1, h2⟩
theorem num_of {v : V3} (h : NumV v) : vAddS false v (0, 0, 0) = (v, false) := vAdd_of (q := (0, 0, 0)) h.1 h.2.1 h.2.2
/-- The reference's three sums. -/
def refNum (bad : Bool) (v : V3) : Bool := (addS (addS (addS bad v.1 0).2 v.2.1 0).2 v.2.2 0).2
theorem rnum_in {bad : Bool} {v : V3} (h : refNum bad v = false) : bad = false ∧ NumV v := by
  unfold refNum at h
  obtain ⟨x, c1, e1⟩ : ∃ x c, addS bad v.1 0 = (x, c) := ⟨_, _, rfl⟩
  obtain ⟨y, c2, e2⟩ : ∃ x c, addS c1 v.2.1 0 = (x, c) := ⟨_, _, rfl⟩
  obtain ⟨z, c3, e3⟩ : ∃ x c, addS c2 v.2.2 0 = (x, c) := ⟨_, _, rfl⟩
  simp only [e1, e2, e3] at h
  subst h
  obtain ⟨rfl, e3⟩ := add_in e3
  obtain ⟨rfl, e2⟩ := add_in e2
  obtain ⟨rfl, e1⟩ := add_in e1
  have k0 := add_nil e1
  have k1 := add_nil e2
  have k2 := add_nil e3
  subst k0 k1 k2
  exact ⟨rfl, e1, e2, e3⟩
theorem rnum_of {v : V3} (h : NumV v) : refNum false v = false := by
  unfold refNum
  simp only [h.1, h.2.1, h.2.2]
/-! ### Step -/
theorem step0_eq (bad : Bool) (d : Dr) (v : V3) (k : Int) (hg : goesS d k = false) : bStepS bad d v k = rStep0 bad v k := by
  have hr : rStep0 bad v k = if refNum bad v then (zeroD, refNum bad v) else ((true, k, v.1, v.2.1, v.2.2, 0, 0, 0), refNum bad v) := rfl
  rw [hr]
  unfold bStepS
  rw [hg]
  simp only [Bool.false_eq_true, if_false]
  obtain ⟨r, c, e⟩ : ∃ r c, vAddS bad v (0, 0, 0) = (r, c) := ⟨_, _, rfl⟩
  simp only [e]
  cases c
  · obtain ⟨rfl, rfl, n⟩ := num_in e
    rw [rnum_of n]
    rfl
  · cases h : refNum bad v
    · obtain ⟨rfl, n⟩ := rnum_in h
      rw [num_of n] at e
      cases e
    · rfl
theorem step_eq (bad : Bool) (d : D7) (v : V3) (k : Int) (hg : goesS (true, d) k = true) : bStepS bad (true, d) v k = rStepIn bad d v k (k - d.1) := by
  generalize ht : k - d.1 = t
  have hr : rStepIn bad d v k t = (let p0 := refPart (refNum bad v) v.1 d.2.1 d.2.2.2.2.1 t; let p1 := refPart p0.2 v.2.1 d.2.2.1 d.2.2.2.2.2.1 t; let p2 := refPart p1.2 v.2.2 d.2.2.2.1 d.2.2.2.2.2.2 t; if p2.2 then (zeroD, p2.2) else ((true, k, v.1, v.2.1, v.2.2, p0.1, p1.1, p2.1), p2.2)) := rfl
  rw [hr]
  unfold bStepS
  rw [hg]
  simp only [if_true, ht]
  obtain ⟨R, c, e⟩ : ∃ r c, leanS bad (true, d) v t = (r, c) := ⟨_, _, rfl⟩
  obtain ⟨r, c2, e2⟩ : ∃ r c2, vAddS c v (0, 0, 0) = (r, c2) := ⟨_, _, rfl⟩
  simp only [e, e2]
  cases c2
  · obtain ⟨rfl, rfl, n⟩ := num_in e2
    obtain ⟨rfl, h0, h1, h2⟩ := lean_in e
    rw [rnum_of n]
    simp only [rpart_of h0, rpart_of h1, rpart_of h2]
    rfl
  · obtain ⟨p0, b0, q0⟩ : ∃ p b, refPart (refNum bad v) v.1 d.2.1 d.2.2.2.2.1 t = (p, b) := ⟨_, _, rfl⟩
    obtain ⟨p1, b1, q1⟩ : ∃ p b, refPart b0 v.2.1 d.2.2.1 d.2.2.2.2.2.1 t = (p, b) := ⟨_, _, rfl⟩
    obtain ⟨p2, b2, q2⟩ : ∃ p b, refPart b1 v.2.2 d.2.2.2.1 d.2.2.2.2.2.2 t = (p, b) := ⟨_, _, rfl⟩
    simp only [q0, q1, q2]
    cases b2
    · obtain ⟨rfl, g2⟩ := rpart_in q2
      obtain ⟨rfl, g1⟩ := rpart_in q1
      obtain ⟨hn, g0⟩ := rpart_in q0
      obtain ⟨rfl, n⟩ := rnum_in hn
      rw [lean_of (d := (true, d)) (R := (p0, p1, p2)) g0 g1 g2] at e
      cases e
      rw [num_of n] at e2
      cases e2
    · rfl
/-! ### Dipole -/
theorem dip_eq (bad : Bool) (d : D7) : rDip1 bad d = bDip1 bad d := by
  unfold rDip1 bDip1 vScaleS
  obtain ⟨x, c1, e1⟩ : ∃ x c, mulS bad d.2.2.2.2.1 (-274877906944) = (x, c) := ⟨_, _, rfl⟩
  obtain ⟨y, c2, e2⟩ : ∃ x c, mulS c1 d.2.2.2.2.2.1 (-274877906944) = (x, c) := ⟨_, _, rfl⟩
  obtain ⟨z, c3, e3⟩ : ∃ x c, mulS c2 d.2.2.2.2.2.2 (-274877906944) = (x, c) := ⟨_, _, rfl⟩
  simp only [e1, e2, e3]
  cases c3
  · rfl
  · rfl
end Go.Proofs.YtoadcnhcfodkgaaGreatDoor
