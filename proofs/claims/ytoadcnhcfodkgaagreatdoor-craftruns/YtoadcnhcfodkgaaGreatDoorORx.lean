/-
  Orbits: Right, by the symbolic run, for the seat YtoadcnhcfodkgaaGreatDoor.
-/
import Derived.Test.YtoadcnhcfodkgaaGreatDoorSenX
import Derived.Test.YtoadcnhcfodkgaaGreatDoorOSpec
import Derived.Test.YtoadcnhcfodkgaaGreatDoorCCDays
namespace Go.Proofs.YtoadcnhcfodkgaaGreatDoor
open Go.RowKit

/-- All of these. -/
def andV (Post : Value → Prop) : List Bool → Prop
  | [] => Post (.bool true)
  | [c] => Post (.bool c)
  | c :: d :: cs => vif c (andV Post (d :: cs)) (Post (.bool false))
theorem andV_of {Post : Value → Prop} : ∀ {cs : List Bool}, Post (.bool (cs.all id)) → andV Post cs
  | [], h => h
  | [c], h => by
    have e : ([c].all id) = c := by cases c <;> rfl
    rw [e] at h
    exact h
  | c :: d :: cs, h => by
    cases c
    · exact h
    · exact andV_of (cs := d :: cs) h
def t7V (x : Tup 7) : V7 := (x.1, x.2.1, x.2.2.1, x.2.2.2.1, x.2.2.2.2.1, x.2.2.2.2.2.1, x.2.2.2.2.2.2.1)
def oxMul : Ct Tryz.prog := flowCt Tryz.prog 127 (then' cI (lone' cI)) (fun bad x => mulS bad x.1 x.2) cI (go_of Tryz.func127 (by kernel_rfl) (by kernel_rfl)) (fun b bad x w _ _ hw => Mul_any b bad x.1 x.2 w hw)
def farW (a e : Int) : List Bool := [!(mulS (mulS false a (IntKind.i64.wrap (1099511627776 - e))).2 a (IntKind.i64.wrap (1099511627776 + e))).2, decide ((mulS false a (IntKind.i64.wrap (1099511627776 - e))).1 ≥ 7232738120604), decide ((mulS (mulS false a (IntKind.i64.wrap (1099511627776 - e))).2 a (IntKind.i64.wrap (1099511627776 + e))).1 ≤ 9211859050600)]
set_option maxRecDepth 100000 in
theorem far_fx : PureOk Tryz.prog 206 (then' cI (lone' cI)) (fun x => (farW x.1 x.2).all id) cB := fun x w hw => by
  refine pure_at (d := then' cI (lone' cI)) (k := cB) (x := x) (y := (farW x.1 x.2).all id) (tbl := [oxMul]) (dirty := fun _ => []) (n := 4) xmixA Tryz.func206 rfl (fun Post hP => ?_) w hw
  exact Eq.mpr (β := andV Post (farW x.1 x.2)) (by kernel_rfl) (andV_of hP)
def oxFar : Ct Tryz.prog := pureCt Tryz.prog 206 (then' cI (lone' cI)) (fun x => (farW x.1 x.2).all id) cB (go_of Tryz.func206 (by kernel_rfl) (by kernel_rfl)) far_fx
theorem ang_fx : PureOk Tryz.prog 207 (lone' cI) oAngC cB := pure_sx (tbl := []) (dirty := fun _ => []) (n := 4) xmixA Tryz.func207 rfl (fun x Post => by
    refine Eq.trans (b := ?m) ?x (Eq.symm ?y)
    case y => unfold oAngC; simp only [← vif_le (K := PJ cB Post)]; exact rfl
    case x => kernel_rfl)
def oxAng : Ct Tryz.prog := pureCt Tryz.prog 207 (lone' cI) oAngC cB (go_of Tryz.func207 (by kernel_rfl) (by kernel_rfl)) ang_fx
def oxRit : Ct Tryz.prog := pureCt Tryz.prog 9 (lone' cI) cRight cB (go_of Tryz.func9 (by kernel_rfl) (by kernel_rfl)) (fun x w _ => cRight_any x w)
def ritL (x : Tup 7) : List Bool := [decide (0 ≤ x.2.1), decide (x.2.1 ≤ 109951162777), (farW x.1 x.2.1).all id, decide (0 ≤ x.2.2.1), decide (x.2.2.1 ≤ 3454217652358), oAngC x.2.2.2.1, oAngC x.2.2.2.2.1, oAngC x.2.2.2.2.2.1, cRight x.2.2.2.2.2.2.1]
theorem far_is {a e : Int} (h0 : 0 ≤ e) (h1 : e ≤ 109951162777) : (farW a e).all id = oFarC a e := by
  have e1 : IntKind.i64.wrap (1099511627776 - e) = 1099511627776 - e := by rw [IntKind.wrap_i64]; omega
  have e2 : IntKind.i64.wrap (1099511627776 + e) = 1099511627776 + e := by rw [IntKind.wrap_i64]; omega
  unfold farW oFarC
  rw [e1, e2]
  dsimp only
  generalize mulS false a (1099511627776 - e) = r1
  generalize mulS r1.2 a (1099511627776 + e) = r2
  cases r2.2
  · by_cases h : r1.1 ≥ 7232738120604
    · rw [decide_eq_true h]; simp [h]
    · rw [decide_eq_false h]; simp [h]
  · rfl
theorem rit_is (x : Tup 7) : (ritL x).all id = oRightC (t7V x) := by
  unfold ritL oRightC t7V
  dsimp only
  by_cases h0 : 0 ≤ x.2.1
  · by_cases h1 : x.2.1 ≤ 109951162777
    · rw [far_is h0 h1, decide_eq_true h0, decide_eq_true h1, if_pos h0, if_pos h1]
      cases oFarC x.1 x.2.1
      · rfl
      by_cases h2 : 0 ≤ x.2.2.1
      · by_cases h3 : x.2.2.1 ≤ 3454217652358
        · rw [decide_eq_true h2, decide_eq_true h3, if_pos h2, if_pos h3]
          cases oAngC x.2.2.2.1
          · rfl
          cases oAngC x.2.2.2.2.1
          · rfl
          cases oAngC x.2.2.2.2.2.1
          · rfl
          cases cRight x.2.2.2.2.2.2.1 <;> rfl
        · rw [decide_eq_true h2, decide_eq_false h3, if_pos h2, if_neg h3]; rfl
      · rw [decide_eq_false h2, if_neg h2]; rfl
    · rw [decide_eq_true h0, decide_eq_false h1, if_pos h0, if_neg h1]; rfl
  · rw [decide_eq_false h0, if_neg h0]; rfl
set_option maxRecDepth 100000 in
theorem orit_fx : PureOk Tryz.prog 120 (lone' (cT 7)) (fun x => oRightC (t7V x)) cB := fun x w hw => by
  refine pure_at (d := lone' (cT 7)) (k := cB) (x := x) (y := oRightC (t7V x)) (tbl := [oxFar, oxAng, oxRit]) (dirty := fun _ => []) (n := 4) xmixA Tryz.func120 rfl (fun Post hP => ?_) w hw
  refine Eq.mpr (β := andV Post (ritL x)) (by kernel_rfl) (andV_of ?_)
  rw [rit_is]
  exact hP
end Go.Proofs.YtoadcnhcfodkgaaGreatDoor
