/-
  Which elements are right, the code's and the document's: one pure function, for the seat YtoadcnhcfodkgaaGreatDoor.
-/
import Derived.Test.YtoadcnhcfodkgaaGreatDoorNxT
import Derived.Test.YtoadcnhcfodkgaaGreatDoorSxJ
namespace Go.Proofs.YtoadcnhcfodkgaaGreatDoor.Nx
open Go.RowKit Go.Proofs.YtoadcnhcfodkgaaGreatDoor

def ctM (d : Bool) : Ct Tryz.prog := match d with
  | false => flowCt Tryz.prog 127 (then' cI (lone' cI)) (fun bad x => mulS bad x.1 x.2) cI (go_of Tryz.func127 (by kernel_rfl) (by kernel_rfl)) (fun b bad x w _ _ hw => Mul_any b bad x.1 x.2 w hw)
  | true => flowCt Tryz.prog 72 (then' cI (lone' cI)) (fun bad x => mulS bad x.1 x.2) cI (go_of Tryz.func72 (by kernel_rfl) (by kernel_rfl)) (fun b bad x w _ _ hw => rMul_any b bad x.1 x.2 w hw)
def tickW (t : Int) : Bool := if 0 ≤ t then decide (t ≤ 157766400000) else false
def angW (a : Int) : Bool := if -6908435304716 ≤ a then decide (a ≤ 6908435304716) else false
def farW (a e : Int) : Bool :=
  if (mulS (mulS false a (IntKind.i64.wrap (1099511627776 - e))).2 a (IntKind.i64.wrap (1099511627776 + e))).2 then false
  else if (mulS false a (IntKind.i64.wrap (1099511627776 - e))).1 ≥ 7232738120604 then decide ((mulS (mulS false a (IntKind.i64.wrap (1099511627776 - e))).2 a (IntKind.i64.wrap (1099511627776 + e))).1 ≤ 9211859050600) else false
theorem kRight_ok : PureOk Tryz.prog 9 (lone' cI) tickW cB := pure_sx (tbl := []) (dirty := fun _ => []) (n := 4) xmixA Tryz.func9 rfl (fun x Post => by
    refine Eq.trans (b := ?m) ?x (Eq.symm ?y)
    case y => unfold tickW; simp only [← vif_le (K := PJ cB Post)]; exact rfl
    case x => kernel_rfl)
theorem oAng_ok : PureOk Tryz.prog 207 (lone' cI) angW cB := pure_sx (tbl := []) (dirty := fun _ => []) (n := 4) xmixA Tryz.func207 rfl (fun x Post => by
    refine Eq.trans (b := ?m) ?x (Eq.symm ?y)
    case y => unfold angW; simp only [← vif_le (K := PJ cB Post)]; exact rfl
    case x => kernel_rfl)
theorem oFar_ok : PureOk Tryz.prog 206 (then' cI (lone' cI)) (fun x => farW x.1 x.2) cB := pure_sx (tbl := [ctM false]) (dirty := fun _ => []) (n := 4) xmixA Tryz.func206 rfl (fun x Post => by
    refine Eq.trans (b := ?m) ?x (Eq.symm ?y)
    case y => unfold farW; simp only [← vif_bn (K := PJ cB Post), ← vif_le (K := PJ cB Post)]; exact rfl
    case x => kernel_rfl)
def ctP {A : Type} {d : Dl A} {R : Type} {c : Dc R} {g : A → R} (f : Nat) (hg : there Tryz.prog f = true) (h : PureOk Tryz.prog f d g c) : Ct Tryz.prog := pureCt Tryz.prog f d g c (there_go hg) h
def rightW (g : Nat → Int) : Bool := if 0 ≤ g 1 then (if g 1 ≤ 109951162777 then (if farW (g 0) (g 1) then (if 0 ≤ g 2 then (if g 2 ≤ 3454217652358 then (if angW (g 3) then (if angW (g 4) then (if angW (g 5) then tickW (g 6) else false) else false) else false) else false) else false) else false) else false) else false
theorem oRight_ok : PureOk Tryz.prog 120 (lone' (cRow 7)) rightW cB := pure_sx (tbl := [ctP 206 (by decide +kernel) oFar_ok, ctP 207 (by decide +kernel) oAng_ok, ctP 9 (by decide +kernel) kRight_ok]) (dirty := fun _ => []) (n := 4) xmixA Tryz.func120 rfl (fun x Post => by
    refine Eq.trans (b := ?m) ?x (Eq.symm ?y)
    case y => unfold rightW; simp only [← vif_b (K := PJ cB Post), ← vif_le (K := PJ cB Post)]; exact rfl
    case x => kernel_rfl)
theorem dTick_ok : PureOk Tryz.prog 17 (lone' cI) tickW cB := pure_sx (tbl := []) (dirty := fun _ => []) (n := 4) xmixA Tryz.func17 rfl (fun x Post => by
    refine Eq.trans (b := ?m) ?x (Eq.symm ?y)
    case y => unfold tickW; simp only [← vif_le (K := PJ cB Post)]; exact rfl
    case x => kernel_rfl)
theorem dAng_ok : PureOk Tryz.prog 181 (lone' cI) angW cB := pure_sx (tbl := []) (dirty := fun _ => []) (n := 4) xmixA Tryz.func181 rfl (fun x Post => by
    refine Eq.trans (b := ?m) ?x (Eq.symm ?y)
    case y => unfold angW; simp only [← vif_le (K := PJ cB Post)]; exact rfl
    case x => kernel_rfl)
def dRightW (g : Nat → Int) : Bool := if g 1 < 0 then false else (if g 1 > 109951162777 then false else (if g 2 < 0 then false else (if g 2 > 3454217652358 then false else (if angW (g 3) then (if angW (g 4) then (if angW (g 5) then (if tickW (g 6) then farW (g 0) (g 1) else false) else false) else false) else false))))
theorem dRight_ok : PureOk Tryz.prog 67 (lone' (cRow 7)) dRightW cB := pure_sx (tbl := [ctM true, ctP 181 (by decide +kernel) dAng_ok, ctP 17 (by decide +kernel) dTick_ok]) (dirty := fun _ => []) (n := 4) xmixA Tryz.func67 rfl (fun x Post => by
    refine Eq.trans (b := ?m) ?x (Eq.symm ?y)
    case y => unfold dRightW farW; simp only [← vif_bn (K := PJ cB Post), ← vif_le (K := PJ cB Post), ← vif_lt (K := PJ cB Post)]; exact rfl
    case x => kernel_rfl)
theorem right_eq (g : Nat → Int) : dRightW g = rightW g := by
  unfold dRightW rightW
  by_cases a1 : 0 ≤ g 1
  · by_cases a2 : g 1 ≤ 109951162777
    · by_cases a3 : 0 ≤ g 2
      · by_cases a4 : g 2 ≤ 3454217652358
        · rw [if_neg (show ¬ g 1 < 0 by omega), if_neg (show ¬ g 1 > 109951162777 by omega), if_neg (show ¬ g 2 < 0 by omega), if_neg (show ¬ g 2 > 3454217652358 by omega), if_pos a1, if_pos a2, if_pos a3, if_pos a4]
          cases farW (g 0) (g 1) <;> cases angW (g 3) <;> cases angW (g 4) <;> cases angW (g 5) <;> cases tickW (g 6) <;> rfl
        · rw [if_neg (show ¬ g 1 < 0 by omega), if_neg (show ¬ g 1 > 109951162777 by omega), if_neg (show ¬ g 2 < 0 by omega), if_pos (show g 2 > 3454217652358 by omega), if_pos a1, if_pos a2, if_pos a3, if_neg a4]
          cases farW (g 0) (g 1) <;> rfl
      · rw [if_neg (show ¬ g 1 < 0 by omega), if_neg (show ¬ g 1 > 109951162777 by omega), if_pos (show g 2 < 0 by omega), if_pos a1, if_pos a2, if_neg a3]
        cases farW (g 0) (g 1) <;> rfl
    · rw [if_neg (show ¬ g 1 < 0 by omega), if_pos (show g 1 > 109951162777 by omega), if_pos a1, if_neg a2]
  · rw [if_pos (show g 1 < 0 by omega), if_neg a1]
theorem oRight_pr : ∃ g, PrOk Tryz.prog (fun d => bif d then 67 else 120) [rI 7] unkB 8 g := pr_pure (S := fun rest => match rest with
    | [v] => .bool (rightW (rowD v))
    | _ => undef) (fun d rest h => by
    obtain ⟨v, rfl, hv⟩ := one_rest h
    have e := rowD_is hv
    refine ⟨fun u hu => by rw [List.mem_singleton.1 hu]; exact rI_np hv, rfl, fun w hw => ?_⟩
    cases d with
    | false =>
      have := oRight_ok (rowD v) w hw
      have k : Calls Tryz.prog 120 #[.agg (row 7 (rowD v)).toArray] w _ := this
      rw [← e] at k
      exact k
    | true =>
      have := dRight_ok (rowD v) w hw
      have k : Calls Tryz.prog 67 #[.agg (row 7 (rowD v)).toArray] w _ := this
      rw [← e] at k
      refine Calls.mono k ?_
      rintro _ w' ⟨rfl, hb⟩
      exact ⟨by rw [right_eq]; rfl, hb⟩) (fun rest h => by
    obtain ⟨v, rfl, hv⟩ := one_rest h
    exact ⟨_, rfl⟩)
def poRight : Pr Tryz.prog := mkP 120 67 (by decide +kernel) (by decide +kernel) oRight_pr
end Go.Proofs.YtoadcnhcfodkgaaGreatDoor.Nx
