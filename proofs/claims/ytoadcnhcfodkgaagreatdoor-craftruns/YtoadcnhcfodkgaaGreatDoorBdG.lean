/-
  The code's bdot, and what it wants of vec, by the symbolic run, for the seat YtoadcnhcfodkgaaGreatDoor.
-/
import Derived.Test.YtoadcnhcfodkgaaGreatDoorAxP
import Derived.Test.YtoadcnhcfodkgaaGreatDoorSxK
import Derived.Test.YtoadcnhcfodkgaaGreatDoorMeth
import Derived.Test.YtoadcnhcfodkgaaGreatDoorBdSpec
namespace Go.Proofs.YtoadcnhcfodkgaaGreatDoor
open Go.RowKit

def cDrB : Dc Dr := cAgg (then' cB (then' cI (then' cI (then' cI (then' cI (then' cI (then' cI (lone' cI))))))))
def goB (d : Dr) (k : Int) : Bool := if d.1 then if k < d.2.1 then false else if 10 ≤ IntKind.u64.wrap (IntKind.u64.wrap k - IntKind.u64.wrap d.2.1) then decide (IntKind.u64.wrap (IntKind.u64.wrap k - IntKind.u64.wrap d.2.1) ≤ 10000) else false else false
def leanB (bad : Bool) (d : Dr) (v : V3) (t : Int) : (V3) × Bool := let r1 := vSubS bad v (d.2.2.1, d.2.2.2.1, d.2.2.2.2.1); let r2 := bpartS r1.2 r1.1 1000 t; let r3 := vSubS r2.2 r2.1 d.2.2.2.2.2; let r4 := bpartS r3.2 r3.1 t (IntKind.i64.wrap (t + 2000)); let r5 := vAddS r4.2 d.2.2.2.2.2 r4.1; (r5.1, r5.2)
def stepB (bad : Bool) (d : Dr) (v : V3) (k : Int) : (Dr) × Bool := if goB d k then let r2 := leanB bad d v (IntKind.i64.wrap (k - d.2.1)); let r3 := vAddS r2.2 v (0, 0, 0); if r3.2 then ((false, 0, 0, 0, 0, 0, 0, 0), r3.2) else ((true, k, r3.1.1, r3.1.2.1, r3.1.2.2, r2.1.1, r2.1.2.1, r2.1.2.2), r3.2) else let r2 := vAddS bad v (0, 0, 0); if r2.2 then ((false, 0, 0, 0, 0, 0, 0, 0), r2.2) else ((true, k, r2.1.1, r2.1.2.1, r2.1.2.2, 0, 0, 0), r2.2)
def minB (x y : Int) : Int := if y < x then y else x
def maxB (x y : Int) : Int := if y > x then y else x
def clampB (v : Int) : Int := maxB (-219902325555) (minB v 219902325555)
def dipB (bad : Bool) (d : Dr) : V3 × Bool := if d.1 then let r1 := vScaleS bad d.2.2.2.2.2 (-274877906944); ((clampB r1.1.1, clampB r1.1.2.1, clampB r1.1.2.2), r1.2) else ((0, 0, 0), bad)
def cMulB : Ct Tryz.prog := flowCt Tryz.prog 127 (then' cI (lone' cI)) (fun bad x => mulS bad x.1 x.2) cI (go_of Tryz.func127 (by kernel_rfl) (by kernel_rfl)) (fun b bad x w _ _ hw => Mul_any b bad x.1 x.2 w hw)
def cAddB : Ct Tryz.prog := flowCt Tryz.prog 134 (then' cI (lone' cI)) (fun bad x => addS bad x.1 x.2) cI (go_of Tryz.func134 (by kernel_rfl) (by kernel_rfl)) (fun b bad x w _ _ hw => Add_any b bad x.1 x.2 w hw)
def cSubB : Ct Tryz.prog := flowCt Tryz.prog 122 (then' cI (lone' cI)) (fun bad x => subS bad x.1 x.2) cI (go_of Tryz.func122 (by kernel_rfl) (by kernel_rfl)) (fun b bad x w _ _ hw => Sub_any b bad x.1 x.2 w hw)
def cPartB : Ct Tryz.prog := flowCt Tryz.prog 151 (then' cI (then' cI (lone' cI))) (fun bad x => partS bad x.1 x.2.1 x.2.2) cI (go_of Tryz.func151 (by kernel_rfl) (by kernel_rfl)) (fun b bad x w _ _ hw => Part_any b bad x.1 x.2.1 x.2.2 w hw)
set_option maxRecDepth 100000 in
theorem soundB_fx : FlowOk Tryz.prog 205 (lone' cV3) (fun bad x => soundS bad x) cV3 := flow_sx (tbl := [cMulB, cAddB, cSubB, cPartB]) (dirty := fun _ => []) (n := 8) xmixA Tryz.func205 rfl (fun bad x Post => by cases bad <;> kernel_rfl)
def csoundB : Ct Tryz.prog := flowCt Tryz.prog 205 (lone' cV3) (fun bad x => soundS bad x) cV3 (go_of Tryz.func205 (by kernel_rfl) (by kernel_rfl)) soundB_fx
set_option maxRecDepth 100000 in
theorem vAddB_fx : FlowOk Tryz.prog 119 (then' cV3 (lone' cV3)) (fun bad x => vAddS bad x.1 x.2) cV3 := flow_sx (tbl := [cMulB, cAddB, cSubB, cPartB, csoundB]) (dirty := fun _ => []) (n := 8) xmixA Tryz.func119 rfl (fun bad x Post => by kernel_rfl)
def cvAddB : Ct Tryz.prog := flowCt Tryz.prog 119 (then' cV3 (lone' cV3)) (fun bad x => vAddS bad x.1 x.2) cV3 (go_of Tryz.func119 (by kernel_rfl) (by kernel_rfl)) vAddB_fx
set_option maxRecDepth 100000 in
theorem vSubB_fx : FlowOk Tryz.prog 138 (then' cV3 (lone' cV3)) (fun bad x => vSubS bad x.1 x.2) cV3 := flow_sx (tbl := [cMulB, cAddB, cSubB, cPartB, csoundB, cvAddB]) (dirty := fun _ => []) (n := 8) xmixA Tryz.func138 rfl (fun bad x Post => by kernel_rfl)
def cvSubB : Ct Tryz.prog := flowCt Tryz.prog 138 (then' cV3 (lone' cV3)) (fun bad x => vSubS bad x.1 x.2) cV3 (go_of Tryz.func138 (by kernel_rfl) (by kernel_rfl)) vSubB_fx
set_option maxRecDepth 100000 in
theorem vScaleB_fx : FlowOk Tryz.prog 139 (then' cV3 (lone' cI)) (fun bad x => vScaleS bad x.1 x.2) cV3 := flow_sx (tbl := [cMulB, cAddB, cSubB, cPartB, csoundB, cvAddB, cvSubB]) (dirty := fun _ => []) (n := 8) xmixA Tryz.func139 rfl (fun bad x Post => by kernel_rfl)
def cvScaleB : Ct Tryz.prog := flowCt Tryz.prog 139 (then' cV3 (lone' cI)) (fun bad x => vScaleS bad x.1 x.2) cV3 (go_of Tryz.func139 (by kernel_rfl) (by kernel_rfl)) vScaleB_fx
set_option maxRecDepth 100000 in
theorem partB_fx : FlowOk Tryz.prog 204 (then' cV3 (then' cI (lone' cI))) (fun bad x => bpartS bad x.1 x.2.1 x.2.2) cV3 := flow_sx (tbl := [cMulB, cAddB, cSubB, cPartB, csoundB, cvAddB, cvSubB, cvScaleB]) (dirty := fun _ => []) (n := 8) xmixA Tryz.func204 rfl (fun bad x Post => by kernel_rfl)
def cpartB : Ct Tryz.prog := flowCt Tryz.prog 204 (then' cV3 (then' cI (lone' cI))) (fun bad x => bpartS bad x.1 x.2.1 x.2.2) cV3 (go_of Tryz.func204 (by kernel_rfl) (by kernel_rfl)) partB_fx
set_option maxRecDepth 100000 in
theorem goB_fx : PureOk Tryz.prog 117 (then' cDrB (lone' cI)) (fun x => goB x.1 x.2) cB := pure_sx (tbl := [cMulB, cAddB, cSubB, cPartB, csoundB, cvAddB, cvSubB, cvScaleB, cpartB]) (dirty := fun _ => []) (n := 8) xmixA Tryz.func117 rfl (fun x Post => by
    refine Eq.trans (b := ?m) ?x (Eq.symm ?y)
    case y => unfold goB; simp only [← vif_bn (K := PJ cB Post), ← vif_lt (K := PJ cB Post), ← vif_le (K := PJ cB Post)]; exact rfl
    case x => kernel_rfl)
def cgoB : Ct Tryz.prog := pureCt Tryz.prog 117 (then' cDrB (lone' cI)) (fun x => goB x.1 x.2) cB (go_of Tryz.func117 (by kernel_rfl) (by kernel_rfl)) goB_fx
set_option maxRecDepth 100000 in
theorem leanB_fx : FlowOk Tryz.prog 118 (then' cDrB (then' cV3 (lone' cI))) (fun bad x => leanB bad x.1 x.2.1 x.2.2) cV3 := flow_sx (tbl := [cMulB, cAddB, cSubB, cPartB, csoundB, cvAddB, cvSubB, cvScaleB, cpartB, cgoB]) (dirty := fun _ => []) (n := 8) xmixA Tryz.func118 rfl (fun bad x Post => by kernel_rfl)
def ctleanB : Ct Tryz.prog := flowCt Tryz.prog 118 (then' cDrB (then' cV3 (lone' cI))) (fun bad x => leanB bad x.1 x.2.1 x.2.2) cV3 (go_of Tryz.func118 (by kernel_rfl) (by kernel_rfl)) leanB_fx
set_option maxRecDepth 100000 in
theorem stepB_fx : FlowOk Tryz.prog 41 (then' cDrB (then' cV3 (lone' cI))) (fun bad x => stepB bad x.1 x.2.1 x.2.2) cDrB := flow_sx (tbl := [cMulB, cAddB, cSubB, cPartB, csoundB, cvAddB, cvSubB, cvScaleB, cpartB, cgoB, ctleanB]) (dirty := fun _ => []) (n := 8) xmixA Tryz.func41 rfl (fun bad x Post => by
    refine Eq.trans (b := ?m) ?x (Eq.symm ?y)
    case y => unfold stepB; simp only [← vif_b (K := PK cDrB Post)]; exact rfl
    case x => kernel_rfl)
def cstepB : Ct Tryz.prog := flowCt Tryz.prog 41 (then' cDrB (then' cV3 (lone' cI))) (fun bad x => stepB bad x.1 x.2.1 x.2.2) cDrB (go_of Tryz.func41 (by kernel_rfl) (by kernel_rfl)) stepB_fx
set_option maxRecDepth 100000 in
theorem dipB_fx : FlowOk Tryz.prog 169 (lone' cDrB) (fun bad x => dipB bad x) cV3 := flow_sx (tbl := [cMulB, cAddB, cSubB, cPartB, csoundB, cvAddB, cvSubB, cvScaleB, cpartB, cgoB, ctleanB, cstepB]) (dirty := fun _ => []) (n := 8) xmixA Tryz.func169 rfl (fun bad x Post => by
    refine Eq.trans (b := ?m) ?x (Eq.symm ?y)
    case y => unfold dipB; simp only [← vif_bn (K := PK cV3 Post)]; exact rfl
    case x => kernel_rfl)
def cdipB : Ct Tryz.prog := flowCt Tryz.prog 169 (lone' cDrB) (fun bad x => dipB bad x) cV3 (go_of Tryz.func169 (by kernel_rfl) (by kernel_rfl)) dipB_fx
end Go.Proofs.YtoadcnhcfodkgaaGreatDoor
