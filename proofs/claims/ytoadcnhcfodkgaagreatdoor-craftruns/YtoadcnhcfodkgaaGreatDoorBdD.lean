/-
  The document's dipole and what it keeps of the field's change, by the symbolic run, for the seat YtoadcnhcfodkgaaGreatDoor.
-/
import Derived.Test.YtoadcnhcfodkgaaGreatDoorCwA
import Derived.Test.YtoadcnhcfodkgaaGreatDoorSxQ
import Derived.Test.YtoadcnhcfodkgaaGreatDoorRMeth
import Derived.Test.YtoadcnhcfodkgaaGreatDoorRFail
namespace Go.Proofs.YtoadcnhcfodkgaaGreatDoor
open Go.RowKit

def rMulCt : Ct Tryz.prog := flowCt Tryz.prog 72 (then' cI (lone' cI)) (fun bad x => mulS bad x.1 x.2) cI (go_of Tryz.func72 (by kernel_rfl) (by kernel_rfl)) (fun b bad x w _ _ hw => rMul_any b bad x.1 x.2 w hw)
def rAddCt : Ct Tryz.prog := flowCt Tryz.prog 64 (then' cI (lone' cI)) (fun bad x => addS bad x.1 x.2) cI (go_of Tryz.func64 (by kernel_rfl) (by kernel_rfl)) (fun b bad x w _ _ hw => rAdd_any b bad x.1 x.2 w hw)
def rSubCt : Ct Tryz.prog := flowCt Tryz.prog 66 (then' cI (lone' cI)) (fun bad x => subS bad x.1 x.2) cI (go_of Tryz.func66 (by kernel_rfl) (by kernel_rfl)) (fun b bad x w _ _ hw => rSub_any b bad x.1 x.2 w hw)
def rPartCt : Ct Tryz.prog := flowCt Tryz.prog 65 (then' cI (then' cI (lone' cI))) (fun bad x => partS bad x.1 x.2.1 x.2.2) cI (go_of Tryz.func65 (by kernel_rfl) (by kernel_rfl)) (fun b bad x w _ _ hw => rPart_any b bad x.1 x.2.1 x.2.2 w hw)
def clampK {α : Type} (n : Int) (K : Int → α) : α := if n > 219902325555 then K 219902325555 else (if n < -219902325555 then K (-219902325555) else K n)
def ddipC (bad : Bool) (d : Dri) : Tup 3 × Bool :=
  clampK (mulS bad d.2.2.2.2.2.1 (-274877906944)).1 fun a => clampK (mulS (mulS bad d.2.2.2.2.2.1 (-274877906944)).2 d.2.2.2.2.2.2.1 (-274877906944)).1 fun b => clampK (mulS (mulS (mulS bad d.2.2.2.2.2.1 (-274877906944)).2 d.2.2.2.2.2.2.1 (-274877906944)).2 d.2.2.2.2.2.2.2.1 (-274877906944)).1 fun c =>
    if (mulS (mulS (mulS bad d.2.2.2.2.2.1 (-274877906944)).2 d.2.2.2.2.2.2.1 (-274877906944)).2 d.2.2.2.2.2.2.2.1 (-274877906944)).2 then ((0, 0, 0, ()), (mulS (mulS (mulS bad d.2.2.2.2.2.1 (-274877906944)).2 d.2.2.2.2.2.2.1 (-274877906944)).2 d.2.2.2.2.2.2.2.1 (-274877906944)).2) else ((a, b, c, ()), (mulS (mulS (mulS bad d.2.2.2.2.2.1 (-274877906944)).2 d.2.2.2.2.2.2.1 (-274877906944)).2 d.2.2.2.2.2.2.2.1 (-274877906944)).2)
def ddipW (bad : Bool) (d : Dri) : Tup 3 × Bool := if !d.1 then ((0, 0, 0, ()), bad) else ddipC bad d
set_option maxRecDepth 100000 in
theorem ddip_fx : FlowOk Tryz.prog 32 (lone' cDri) ddipW (cT 3) := flow_sx (tbl := [rMulCt]) (dirty := fun _ => []) (n := 6) xmixA Tryz.func32 rfl (fun bad x Post => by
    refine Eq.trans (b := ?m) ?x (Eq.symm ?y)
    case y => unfold ddipW ddipC clampK; simp only [← vif_b (K := PK (cT 3) Post), ← vif_lt (K := PK (cT 3) Post)]; exact rfl
    case x => kernel_rfl)
end Go.Proofs.YtoadcnhcfodkgaaGreatDoor
