/-
  What the document's Counts answers, by the symbolic run, for the seat YtoadcnhcfodkgaaGreatDoor.
-/
import Derived.Test.YtoadcnhcfodkgaaGreatDoorTlX
import Derived.Test.YtoadcnhcfodkgaaGreatDoorRMeth
namespace Go.Proofs.YtoadcnhcfodkgaaGreatDoor
open Go.RowKit

def rcPart : Ct Tryz.prog := flowCt Tryz.prog 65 (then' cI (then' cI (lone' cI))) (fun bad x => partS bad x.1 x.2.1 x.2.2) cI (go_of Tryz.func65 (by kernel_rfl) (by kernel_rfl)) (fun b bad x w _ _ hw => rPart_any b bad x.1 x.2.1 x.2.2 w hw)
def rcG (n : Int) (K Z : Prop) : Prop := vif (decide (n ≥ -32768)) (vif (decide (n ≤ 32767)) K Z) Z
theorem rcG_is (n : Int) (K Z : Prop) : rcG n K Z = vif (inR n (-32768) 32767) K Z := by
  unfold rcG inR
  cases decide (n ≤ 32767) <;> by_cases h : -32768 ≤ n
  · rw [decide_eq_true h]; rfl
  · rw [decide_eq_false h]; rfl
  · rw [decide_eq_true h]; rfl
  · rw [decide_eq_false h]; rfl
def rcH (n : Int) (K Z : Prop) : Prop := vif (decide (n ≥ -32768)) (vif (!decide (n ≤ 32767)) Z K) Z
theorem rcH_is (n : Int) (K Z : Prop) : rcH n K Z = vif (inR n (-32768) 32767) K Z := by
  rw [← rcG_is]
  unfold rcG rcH
  cases decide (n ≤ 32767) <;> rfl
def rcV (q : Tup 4) (m : Tup 3) (K : Tup 4 × Tup 3 → Prop) : Prop :=
  let p0 := partS false q.1 1 67108864
  let p1 := partS p0.2 q.2.1 1 67108864
  let p2 := partS p1.2 q.2.2.1 1 67108864
  let p3 := partS p2.2 q.2.2.2.1 1 67108864
  let p4 := partS p3.2 m.1 10000 1099511627776
  let p5 := partS p4.2 m.2.1 10000 1099511627776
  let p6 := partS p5.2 m.2.2.1 10000 1099511627776
  let Z := K (cntT ((0, 0, 0, 0), (0, 0, 0)))
  rcG p0.1 (rcG p1.1 (rcG p2.1 (rcG p3.1 (rcG p4.1 (rcG p5.1 (rcH p6.1 (vif p6.2 Z (K (cntT ((p0.1, p1.1, p2.1, p3.1), (p4.1, p5.1, p6.1))))) Z) Z) Z) Z) Z) Z) Z
theorem rc_and (b0 b1 b2 b3 b4 b5 b6 f : Bool) {α : Type} (K : α → Prop) (x z : α) : vif b0 (vif b1 (vif b2 (vif b3 (vif b4 (vif b5 (vif b6 (vif f (K z) (K x)) (K z)) (K z)) (K z)) (K z)) (K z)) (K z)) (K z) = K (if b0 && b1 && b2 && b3 && b4 && b5 && b6 && !f then x else z) := by
  cases b0
  · rfl
  cases b1
  · rfl
  cases b2
  · rfl
  cases b3
  · rfl
  cases b4
  · rfl
  cases b5
  · rfl
  cases b6
  · rfl
  cases f <;> rfl
theorem rcV_is (q : Tup 4) (m : Tup 3) (K : Tup 4 × Tup 3 → Prop) : rcV q m K = K (cntT (tlC (qT q) (mT m))) := by
  rw [tlC_eq]
  unfold rcV tlD
  dsimp only
  simp only [rcG_is, rcH_is]
  rw [rc_and _ _ _ _ _ _ _ _ (fun r => K (cntT r))]
set_option maxRecDepth 100000 in
theorem rcounts_fx : PureOk Tryz.prog 33 (then' (cT 4) (lone' (cT 3))) (fun x => cntT (tlC (qT x.1) (mT x.2))) (two' (cT 4) (cT 3)) := pure_sx (tbl := [rcPart]) (dirty := fun _ => []) (n := 6) xmixA Tryz.func33 rfl (fun x Post => by
    rw [← rcV_is x.1 x.2 (PJ (two' (cT 4) (cT 3)) Post)]
    kernel_rfl)
end Go.Proofs.YtoadcnhcfodkgaaGreatDoor
