/-
  The code's Norm and Unit of a direction, by the symbolic run, for the seat YtoadcnhcfodkgaaGreatDoor.
-/
import Derived.Test.YtoadcnhcfodkgaaGreatDoorAxP
import Derived.Test.YtoadcnhcfodkgaaGreatDoorMeth
import Derived.Test.YtoadcnhcfodkgaaGreatDoorMNorm
import Derived.Test.YtoadcnhcfodkgaaGreatDoorVSpec
namespace Go.Proofs.YtoadcnhcfodkgaaGreatDoor
open Go.RowKit

def vcDiv : Ct Tryz.prog := flowCt Tryz.prog 211 (then' cI (lone' cI)) (fun bad x => divS bad x.1 x.2) cI (go_of Tryz.func211 (by kernel_rfl) (by kernel_rfl)) (fun b bad x w _ _ hw => Div_any b bad x.1 x.2 w hw)
def vcNor : Ct Tryz.prog := flowCt Tryz.prog 135 (then' cI (then' cI (lone' cI))) (fun bad x => normS bad x.1 x.2.1 x.2.2) cI (go_of Tryz.func135 (by kernel_rfl) (by kernel_rfl)) (fun b bad x w _ _ hw => Norm_any b bad x.1 x.2.1 x.2.2 w hw)
def vcFail : Ct Tryz.prog := flowCt Tryz.prog 121 none' (fun _ _ => ((), true)) cU (go_of Tryz.func121 (by kernel_rfl) (by kernel_rfl)) (fun b bad _ w _ _ hw => Fail_any b bad w hw)
set_option maxRecDepth 100000 in
theorem vcNorm : FlowOk Tryz.prog 46 (lone' cV3) (fun bad x => vNormS bad x) cI := flow_sx (tbl := [vcNor]) (dirty := fun _ => []) (n := 2) xmixA Tryz.func46 rfl (fun bad x Post => by kernel_rfl)
def vcNo : Ct Tryz.prog := flowCt Tryz.prog 46 (lone' cV3) (fun bad x => vNormS bad x) cI (go_of Tryz.func46 (by kernel_rfl) (by kernel_rfl)) vcNorm
set_option maxRecDepth 100000 in
theorem vcUnit : FlowOk Tryz.prog 240 (lone' cV3) (fun bad x => vUnitS bad x) cV3 := flow_sx (tbl := [vcDiv, vcFail, vcNo]) (dirty := fun _ => []) (n := 4) xmixA Tryz.func240 rfl (fun bad x Post => by
    refine Eq.trans (b := ?m) ?x (Eq.symm ?y)
    case y => unfold vUnitS; simp only [← vif_lt (K := PK cV3 Post)]; exact rfl
    case x => kernel_rfl)
theorem vNorm_any (b : Nat) (bad : Bool) (p : V3) (w : World) (hw : Fl b bad w) (hg : GW w) (hb : 1 < b) :
    Calls Tryz.prog 46 #[.pointer (some ⟨b, 0, none⟩), .agg #[.int .i64 p.1, .int .i64 p.2.1, .int .i64 p.2.2]] w fun e w' => e = .returned (.int .i64 ((vNormS bad p).1)) ∧ Fl b (vNormS bad p).2 w' ∧ Kept b w w' := vcNorm b bad p w hg hb hw
theorem vUnit_any (b : Nat) (bad : Bool) (p : V3) (w : World) (hw : Fl b bad w) (hg : GW w) (hb : 1 < b) :
    Calls Tryz.prog 240 #[.pointer (some ⟨b, 0, none⟩), .agg #[.int .i64 p.1, .int .i64 p.2.1, .int .i64 p.2.2]] w fun e w' => e = .returned (.agg #[.int .i64 ((vUnitS bad p).1.1), .int .i64 ((vUnitS bad p).1.2.1), .int .i64 ((vUnitS bad p).1.2.2)]) ∧ Fl b (vUnitS bad p).2 w' ∧ Kept b w w' := vcUnit b bad p w hg hb hw
end Go.Proofs.YtoadcnhcfodkgaaGreatDoor
