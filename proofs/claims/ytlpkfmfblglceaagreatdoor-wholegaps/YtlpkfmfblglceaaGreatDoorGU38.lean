/- A part. -/
import Derived.Test.YtlpkfmfblglceaaGreatDoorGU37
namespace Go.Proofs.YtlpkfmfblglceaaGreatDoor
open Go.RowKit
def and1W (x : Int) : Int := IntKind.i64.wrap ((BitVec.ofInt IntKind.i64.bits x &&& BitVec.ofInt IntKind.i64.bits 1).toNat)
def GapsHeld (c d : Cra) (_ : Tel) (_ : ByteArray) : Prop :=
 (cPlan c).1 ≠ 2 ∨ (10 ≤ IntKind.i64.wrap (d.2.1 - c.2.1) ∧ IntKind.i64.wrap (d.2.1 - c.2.1) ≤ 10000) ∨ ((cPlan d).1 = 1 ∧ and1W (cPlan d).2.2.2.2.2.1 > 0) ∨ (cPlan d).1 = 3
def gapR (d : Cra) (Post : Value → Prop) : Prop :=
 vif (decide ((cPlan d).1 = 1)) (vif (decide (and1W (cPlan d).2.2.2.2.2.1 > 0)) (Post (.bool true)) (Post (.bool (decide ((cPlan d).1 = 3))))) (Post (.bool (decide ((cPlan d).1 = 3))))
theorem gapR_of {d : Cra} {Post : Value → Prop} (hP : Post (.bool true)) (h : ((cPlan d).1 = 1 ∧ and1W (cPlan d).2.2.2.2.2.1 > 0) ∨ (cPlan d).1 = 3) : gapR d Post := by
 unfold gapR
 rcases h with ⟨h1, h2⟩ | h3
 ·rw [decide_eq_true h1, decide_eq_true h2]
  exact hP
 ·rw [decide_eq_true h3, decide_eq_false (by omega)]
  exact hP
set_option maxRecDepth 100000 in
theorem gaps1_ok : HeldOk 10 GapsHeld := by
 intro c d T b hH w hw
 refine pure_at (d := then' cCra (then' cCra (then' (cT 13) (lone' cS)))) (k := cB) (x := (c, d, T, b)) (y := true) (tbl := []) (dirty := fun _ => []) (n := 4) xmixA Tryz.func10 rfl (fun Post hP => ?_) w hw
 refine Eq.mpr (β := vif (!decide ((cPlan c).1 = 2)) (Post (.bool true)) (vif (decide (IntKind.i64.wrap (d.2.1 - c.2.1) ≥ 10)) (vif (decide (IntKind.i64.wrap (d.2.1 - c.2.1) ≤ 10000)) (Post (.bool true)) (gapR d Post)) (gapR d Post))) (by kernel_rfl) ?_
 have hP : Post (.bool true) := hP
 by_cases h2 : (cPlan c).1 = 2
 ·rw [decide_eq_true h2]
  show vif _ _ _
  rcases hH with h | ⟨h1, h2⟩ | h
  ·exact absurd h2 h
  ·rw [decide_eq_true h1, decide_eq_true h2]
   exact hP
  ·have hg := gapR_of hP h
   by_cases k1 : IntKind.i64.wrap (d.2.1 - c.2.1) ≥ 10
   ·rw [decide_eq_true k1]
    by_cases k2 : IntKind.i64.wrap (d.2.1 - c.2.1) ≤ 10000
    ·rw [decide_eq_true k2]; exact hP
    ·rw [decide_eq_false k2]; exact hg
   ·rw [decide_eq_false k1]
    exact hg
 ·rw [decide_eq_false h2]
  exact hP
theorem and_or : ∀ n : Fin 16, and1W (bits .or .i64 (n.val : Int) 1) > 0 := by decide +kernel
theorem goes_no {c : Cra} {t : Int} (h0 : 0 ≤ c.2.1) (h1 : c.2.1 < t) (h2 : t ≤ 157766400000) (h : ¬ (10 ≤ t - c.2.1 ∧ t - c.2.1 ≤ 10000)) : goesW c t = false := by
 unfold goesW
 have e : IntKind.u64.wrap (IntKind.u64.wrap t - IntKind.u64.wrap c.2.1) = t - c.2.1 := by
  rw [IntKind.wrap_u64, IntKind.wrap_u64, IntKind.wrap_u64]
  omega
 dsimp only
 rw [e]
 split
 ·split
  ·exact decide_eq_false (by omega)
  ·rfl
 ·rfl
theorem gaps_all {F : Fs} : HeldAll F GapsHeld := by
 intro c t b hi _ _ k
 unfold GapsHeld
 by_cases hm : (cPlan c).1 = 2
 ·have hon : c.1 = true := by
   cases hc : c.1
   ·have := hi.off hc
    omega
   ·rfl
  have hl := k.late hon
  have ht := right_in k.right
  have hc := right_in hi.t
  rw [k.tick]
  have e : IntKind.i64.wrap (t - c.2.1) = t - c.2.1 := by
   rw [IntKind.wrap_i64]
   omega
  rw [e]
  by_cases hg : 10 ≤ t - c.2.1 ∧ t - c.2.1 ≤ 10000
  ·exact .inr (.inl hg)
  ·obtain ⟨p, s, hp, hs, _, _, hn⟩ := k.plan
   rw [goes_no hc.1 hl ht.2 hg] at hs
   have hs : s.1 = true := hs
   have hp2 : p.1 = 2 := by rcases hp with e | e <;> rw [e] <;> exact hm
   have hpf : 0 ≤ p.2.2.2.2.2.1 ∧ p.2.2.2.2.2.1 ≤ 15 := by
    rcases hp with e | e <;> rw [e]
    ·exact ⟨hi.p.f0, hi.p.f9⟩
    ·exact ⟨Int.le_refl 0, show (0 : Int) ≤ 15 by decide⟩
   have hx : ((nextT (p, s)).1 = 1 ∧ and1W (nextT (p, s)).2.2.2.2.2.1 > 0) ∨ (nextT (p, s)).1 = 3 := by
    show ((nextW (plOf p) (snOf s)).mode = 1 ∧ and1W (nextW (plOf p) (snOf s)).faults > 0) ∨ (nextW (plOf p) (snOf s)).mode = 3
    have e2 : (plOf p).mode = 2 := hp2
    have e3 : (snOf s).gap = true := hs
    unfold nextW nextV
    split
    ·exact .inr rfl
    ·rw [if_neg (by omega), if_neg (by omega), if_neg (by omega)]
     try rw [if_pos e2]
     rw [e3]
     refine .inl ⟨rfl, ?_⟩
     show and1W (bits .or .i64 p.2.2.2.2.2.1 1) > 0
     obtain ⟨n, hn⟩ : ∃ n : Nat, p.2.2.2.2.2.1 = n := ⟨p.2.2.2.2.2.1.toNat, by omega⟩
     rw [hn]
     exact and_or ⟨n, by omega⟩
   rcases hn with e | ⟨e, _⟩
   ·rw [e]
    exact .inr (.inr hx)
   ·rcases hx with ⟨h, _⟩ | h <;> exact absurd (e.symm.trans h) (by decide)
 ·exact .inl hm
end Go.Proofs.YtlpkfmfblglceaaGreatDoor
