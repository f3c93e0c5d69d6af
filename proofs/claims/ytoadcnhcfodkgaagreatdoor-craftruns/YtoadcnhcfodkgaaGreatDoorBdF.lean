/-
  bdot's steps and the document's are the same, by tuples, for the seat YtoadcnhcfodkgaaGreatDoor.
-/
import Derived.Test.YtoadcnhcfodkgaaGreatDoorBdE
import Derived.Test.YtoadcnhcfodkgaaGreatDoorBdEq
import Derived.Test.YtoadcnhcfodkgaaGreatDoorBdG
namespace Go.Proofs.YtoadcnhcfodkgaaGreatDoor
open Go.RowKit

def v3Of (b : Tup 3) : V3 := (b.1, b.2.1, b.2.2.1)
def drOf (o : Dri) : Dr := (o.1, o.2.1, o.2.2.1, o.2.2.2.1, o.2.2.2.2.1, o.2.2.2.2.2.1, o.2.2.2.2.2.2.1, o.2.2.2.2.2.2.2.1)
def driOf (d : Dr) : Dri := (d.1, d.2.1, d.2.2.1, d.2.2.2.1, d.2.2.2.2.1, d.2.2.2.2.2.1, d.2.2.2.2.2.2.1, d.2.2.2.2.2.2.2, ())
def driB (r : Dr × Bool) : Dri × Bool := (driOf r.1, r.2)
theorem wrap_inB {x : Int} (h : -9223372036854775808 ≤ x ∧ x ≤ 9223372036854775807) : IntKind.i64.wrap x = x := by rw [IntKind.wrap_i64]; omega
theorem goB_eq {d : Dr} {k : Int} (hd : -9223372036854775808 ≤ d.2.1 ∧ d.2.1 ≤ 9223372036854775807) (hk : -9223372036854775808 ≤ k ∧ k ≤ 9223372036854775807) : goB d k = goesS d k := by
  unfold goB goesS
  cases d.1
  · rfl
  simp only [if_true, Bool.true_and, IntKind.wrap_u64]
  by_cases c : k < d.2.1
  · rw [if_pos c, decide_eq_false (by omega), Bool.false_and]
  · rw [if_neg c]
    have e : (k % 18446744073709551616 - d.2.1 % 18446744073709551616) % 18446744073709551616 = k - d.2.1 := by omega
    rw [e]
    by_cases c1 : 10 ≤ k - d.2.1
    · rw [if_pos c1, decide_eq_true c1, Bool.true_and]
    · rw [if_neg c1, decide_eq_false c1, Bool.false_and]
theorem stepB_eq (bad : Bool) {d : Dr} (v : V3) {k : Int} (hd : -9223372036854775808 ≤ d.2.1 ∧ d.2.1 ≤ 9223372036854775807) (hk : -9223372036854775808 ≤ k ∧ k ≤ 9223372036854775807) : stepB bad d v k = bStepS bad d v k := by
  unfold stepB bStepS
  rw [goB_eq hd hk]
  by_cases c : goesS d k = true
  · have h := goes_in c
    have e : leanB bad d v (IntKind.i64.wrap (k - d.2.1)) = leanS bad d v (k - d.2.1) := by
      rw [wrap_inB (by omega)]
      unfold leanB leanS
      rw [wrap_inB (by omega)]
    simp only [c, if_true, e]
  · simp only [Bool.eq_false_iff.2 c, Bool.false_eq_true, if_false]
theorem tR_is {o k : Int} (ho : -9223372036854775808 ≤ o ∧ o ≤ 9223372036854775807) (hk : -9223372036854775808 ≤ k ∧ k ≤ 9223372036854775807) : ∀ c : Nat, c ≤ 9991 → tR o k c = if 10 ≤ k - o ∧ k - o < 10 + (c : Int) then k - o else 0
  | 0, _ => by rw [tR, if_neg (by omega)]
  | c + 1, hc => by
    have ih := tR_is ho hk c (by omega)
    rw [tR, wrap_inB (x := 9223372036854775807 - (10 + (c : Int))) (by omega), ih]
    by_cases h1 : o ≤ 9223372036854775807 - (10 + (c : Int))
    · rw [if_pos h1, wrap_inB (x := o + (10 + (c : Int))) (by omega)]
      by_cases h2 : o + (10 + (c : Int)) = k
      · rw [if_pos h2, if_pos (by omega)]
        omega
      · rw [if_neg h2]
        by_cases h3 : 10 ≤ k - o ∧ k - o < 10 + (c : Int)
        · rw [if_pos h3, if_pos (by omega)]
        · rw [if_neg h3, if_neg (by omega)]
    · rw [if_neg h1]
      by_cases h3 : 10 ≤ k - o ∧ k - o < 10 + (c : Int)
      · rw [if_pos h3, if_pos (by omega)]
      · rw [if_neg h3, if_neg (by omega)]
theorem leanR_is {bad : Bool} {x l r t : Int} (ht : 10 ≤ t ∧ t ≤ 10000) : leanR bad x l r t = refPart bad x l r t := by
  unfold leanR refPart
  rw [wrap_inB (x := t + 2000) (by omega)]
theorem endN_is (bad : Bool) (b : Tup 3) (k : Int) : endN (flR bad b) b k = driB (rStep0 bad (v3Of b) k) := by
  have hr : rStep0 bad (v3Of b) k = if flR bad b then (zeroD, flR bad b) else ((true, k, b.1, b.2.1, b.2.2.1, 0, 0, 0), flR bad b) := rfl
  rw [hr]
  unfold endN driB
  cases flR bad b <;> rfl
theorem endL_is (bad : Bool) (d : Dri) (b : Tup 3) {k t : Int} (ht : 10 ≤ t ∧ t ≤ 10000) : endL (flR bad b) d b k t = driB (rStepIn bad (drOf d).2 (v3Of b) k t) := by
  have hr : rStepIn bad (drOf d).2 (v3Of b) k t = (let p0 := refPart (flR bad b) b.1 d.2.2.1 d.2.2.2.2.2.1 t; let p1 := refPart p0.2 b.2.1 d.2.2.2.1 d.2.2.2.2.2.2.1 t; let p2 := refPart p1.2 b.2.2.1 d.2.2.2.2.1 d.2.2.2.2.2.2.2.1 t; if p2.2 then (zeroD, p2.2) else ((true, k, b.1, b.2.1, b.2.2.1, p0.1, p1.1, p2.1), p2.2)) := by kernel_rfl
  rw [hr]
  unfold endL bxT bxS bxR
  simp only [leanR_is ht]
  generalize refPart (flR bad b) b.1 d.2.2.1 d.2.2.2.2.2.1 t = p0
  generalize refPart p0.2 b.2.1 d.2.2.2.1 d.2.2.2.2.2.2.1 t = p1
  generalize refPart p1.2 b.2.2.1 d.2.2.2.2.1 d.2.2.2.2.2.2.2.1 t = p2
  unfold driB
  cases p2.2 <;> rfl
theorem step_is (bad : Bool) (o : Dri) (b : Tup 3) {k : Int} (ho : -9223372036854775808 ≤ o.2.1 ∧ o.2.1 ≤ 9223372036854775807) (hk : -9223372036854775808 ≤ k ∧ k ≤ 9223372036854775807) :
    bstR bad (o, b, k) = driB (stepB bad (drOf o) (v3Of b) k) := by
  rw [stepB_eq bad (d := drOf o) (v3Of b) ho hk]
  unfold bstR
  dsimp only
  rw [tR_is ho hk 9991 (by omega)]
  by_cases c : 10 ≤ k - o.2.1 ∧ k - o.2.1 ≤ 10000
  · rw [if_pos (by omega)]
    unfold endR
    cases h : o.1
    · rw [step0_eq bad (drOf o) (v3Of b) k (show (o.1 && _) = false by rw [h]; rfl)]
      exact endN_is bad b k
    · have g : goesS (true, (drOf o).2) k = true := by unfold goesS drOf; simp; exact c
      have e : drOf o = (true, (drOf o).2) := by unfold drOf; rw [h]
      rw [e, step_eq bad (drOf o).2 (v3Of b) k g, if_neg (by decide), if_neg (show ¬ k - o.2.1 = 0 by omega)]
      exact endL_is bad o b c
  · rw [if_neg (by omega)]
    have g : goesS (drOf o) k = false := by
      unfold goesS drOf
      cases o.1
      · rfl
      · simp; omega
    rw [step0_eq bad (drOf o) (v3Of b) k g]
    unfold endR
    rw [if_pos rfl]
    cases o.1 <;> exact endN_is bad b k
theorem cStep_fx : FlowOk Tryz.prog 41 dStp (fun bad x => driB (stepB bad (drOf x.1) (v3Of x.2.1) x.2.2)) cDri :=
  fun b bad x w hg hb hw => stepB_fx b bad (drOf x.1, v3Of x.2.1, x.2.2) w hg hb hw
/-! ### Dipole -/
theorem clampK_is {α : Type} (n : Int) (K : Int → α) : clampK n K = K (clampB n) := by
  unfold clampK clampB minB maxB
  by_cases h1 : n > 219902325555
  · rw [if_pos h1, if_pos (show (219902325555 : Int) < n from h1), if_pos (by decide)]
  · rw [if_neg h1, if_neg (show ¬ (219902325555 : Int) < n from h1)]
    by_cases h2 : n < -219902325555
    · rw [if_pos h2, if_neg (by omega)]
    · rw [if_neg h2]
      by_cases h3 : n > -219902325555
      · rw [if_pos h3]
      · rw [if_neg h3]
        exact congrArg K (by omega)
def driV (r : V3 × Bool) : Tup 3 × Bool := ((r.1.1, r.1.2.1, r.1.2.2, ()), r.2)
theorem dip_is (bad : Bool) (d : Dri) : ddipW bad d = driV (dipB bad (drOf d)) := by
  unfold ddipW dipB drOf
  dsimp only
  cases d.1
  · rfl
  · rw [if_neg (by decide), if_pos rfl]
    unfold ddipC vScaleS
    simp only [clampK_is]
    obtain ⟨x, c1, e1⟩ : ∃ x c, mulS bad d.2.2.2.2.2.1 (-274877906944) = (x, c) := ⟨_, _, rfl⟩
    obtain ⟨y, c2, e2⟩ : ∃ x c, mulS c1 d.2.2.2.2.2.2.1 (-274877906944) = (x, c) := ⟨_, _, rfl⟩
    obtain ⟨z, c3, e3⟩ : ∃ x c, mulS c2 d.2.2.2.2.2.2.2.1 (-274877906944) = (x, c) := ⟨_, _, rfl⟩
    simp only [e1, e2, e3]
    cases c3
    · rfl
    · rfl
theorem cDip_fx : FlowOk Tryz.prog 169 (lone' cDri) (fun bad d => driV (dipB bad (drOf d))) (cT 3) :=
  fun b bad x w hg hb hw => dipB_fx b bad (drOf x) w hg hb hw
end Go.Proofs.YtoadcnhcfodkgaaGreatDoor
