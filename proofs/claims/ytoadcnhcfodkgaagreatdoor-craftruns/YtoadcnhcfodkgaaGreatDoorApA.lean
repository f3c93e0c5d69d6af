/-
  The code's Apart, in its steps, for the seat YtoadcnhcfodkgaaGreatDoor.
-/
import Derived.Test.YtoadcnhcfodkgaaGreatDoorNxU
import Derived.Test.YtoadcnhcfodkgaaGreatDoorBdG
namespace Go.Proofs.YtoadcnhcfodkgaaGreatDoor
open Go.RowKit

theorem vCrossA_fx : FlowOk Tryz.prog 270 (then' cV3 (lone' cV3)) (fun bad x => vCrossS bad x.1 x.2) cV3 := flow_sx (tbl := [cMulB, cAddB, cSubB, csoundB]) (dirty := fun _ => []) (n := 8) xmixA Tryz.func270 rfl (fun bad x Post => by kernel_rfl)
def cvCrossA : Ct Tryz.prog := flowCt Tryz.prog 270 (then' cV3 (lone' cV3)) (fun bad x => vCrossS bad x.1 x.2) cV3 (go_of Tryz.func270 (by kernel_rfl) (by kernel_rfl)) vCrossA_fx
theorem vDotA_fx : FlowOk Tryz.prog 137 (then' cV3 (lone' cV3)) (fun bad x => vDotS bad x.1 x.2) cI := flow_sx (tbl := [cMulB, cAddB, cSubB, csoundB]) (dirty := fun _ => []) (n := 8) xmixA Tryz.func137 rfl (fun bad x Post => by kernel_rfl)
def cvDotA : Ct Tryz.prog := flowCt Tryz.prog 137 (then' cV3 (lone' cV3)) (fun bad x => vDotS bad x.1 x.2) cI (go_of Tryz.func137 (by kernel_rfl) (by kernel_rfl)) vDotA_fx
def cvUniA : Ct Tryz.prog := flowCt Tryz.prog 240 (lone' cV3) Nx.vUniS cV3 (go_of Tryz.func240 (by kernel_rfl) (by kernel_rfl)) Nx.vUni_ok
def partsA (bad : Bool) (p q : V3) : (Int × Int) × Bool := let r1 := Nx.vUniS bad p; let r2 := Nx.vUniS r1.2 q; let r3 := vCrossS r2.2 r1.1 r2.1; let r4 := Nx.vNrmS r3.2 r3.1; let r5 := vDotS r4.2 r1.1 r2.1; ((r4.1, r5.1), r5.2)
theorem vPartsA_fx : FlowOk Tryz.prog 227 (then' cV3 (lone' cV3)) (fun bad x => partsA bad x.1 x.2) (two' cI cI) := flow_sx (tbl := [cvUniA, cvCrossA, Nx.cvNrm, cvDotA]) (dirty := fun _ => []) (n := 8) xmixA Tryz.func227 rfl (fun bad x Post => by kernel_rfl)
def cvPartsA : Ct Tryz.prog := flowCt Tryz.prog 227 (then' cV3 (lone' cV3)) (fun bad x => partsA bad x.1 x.2) (two' cI cI) (go_of Tryz.func227 (by kernel_rfl) (by kernel_rfl)) vPartsA_fx
def apA (bad : Bool) (p q : V3) : Bool × Bool := (decide ((partsA bad p q).1.1 ≥ 190928190487), (partsA bad p q).2)
theorem apartA_fx : FlowOk Tryz.prog 136 (then' cV3 (lone' cV3)) (fun bad x => apA bad x.1 x.2) cB := flow_sx (tbl := [cvPartsA]) (dirty := fun _ => []) (n := 8) xmixA Tryz.func136 rfl (fun bad x Post => by kernel_rfl)
end Go.Proofs.YtoadcnhcfodkgaaGreatDoor
