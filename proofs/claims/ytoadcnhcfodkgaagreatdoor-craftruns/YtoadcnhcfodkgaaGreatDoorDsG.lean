/-
  filter.Start, the code's and the document's, by the symbolic run, for the seat YtoadcnhcfodkgaaGreatDoor.
-/
import Derived.Test.YtoadcnhcfodkgaaGreatDoorCwA
namespace Go.Proofs.YtoadcnhcfodkgaaGreatDoor
open Go.RowKit

def st43 (x : Tup 4) : Tup 43 := (x.1, x.2.1, x.2.2.1, x.2.2.2.1, 0, 0, 0, 17179869184, 0, 0, 0, 0, 0, 0, 17179869184, 0, 0, 0, 0, 0, 0, 17179869184, 0, 0, 0, 0, 0, 0, 16777216, 0, 0, 0, 0, 0, 0, 16777216, 0, 0, 0, 0, 0, 0, 16777216, ())
theorem eit_fx : PureOk Tryz.prog 237 (then' cI (then' cI (lone' cI))) (fun x => if x.1 < 3 then x.2.1 else x.2.2) cI := pure_sx (tbl := []) (dirty := fun _ => []) (n := 4) xmixA Tryz.func237 rfl (fun x Post => by
    refine Eq.trans (b := ?m) ?x (Eq.symm ?y)
    case y => simp only [← vif_lt (K := PJ cI Post)]; exact rfl
    case x => kernel_rfl)
def ctEit : Ct Tryz.prog := pureCt Tryz.prog 237 (then' cI (then' cI (lone' cI))) (fun x => if x.1 < 3 then x.2.1 else x.2.2) cI (go_of Tryz.func237 (by kernel_rfl) (by kernel_rfl)) eit_fx
theorem startC_fx : PureOk Tryz.prog 166 (lone' (cT 4)) st43 (cT 43) := pure_sx (tbl := [ctEit]) (dirty := fun _ => []) (n := 8) xmixA Tryz.func166 rfl (fun x Post => by kernel_rfl)
theorem startD_fx : PureOk Tryz.prog 31 (lone' (cT 4)) st43 (cT 43) := pure_sx (tbl := []) (dirty := fun _ => []) (n := 8) xmixA Tryz.func31 rfl (fun x Post => by kernel_rfl)
end Go.Proofs.YtoadcnhcfodkgaaGreatDoor
