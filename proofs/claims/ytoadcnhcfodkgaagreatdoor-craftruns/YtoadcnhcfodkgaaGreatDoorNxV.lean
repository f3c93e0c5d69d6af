/-
  Over names: vec, for the seat YtoadcnhcfodkgaaGreatDoor. (Made by mknx.py.)
-/
import Derived.Test.YtoadcnhcfodkgaaGreatDoorNxL
import Derived.Test.YtoadcnhcfodkgaaGreatDoorNxU
namespace Go.Proofs.YtoadcnhcfodkgaaGreatDoor.Nx
open Go.RowKit Go.Proofs.YtoadcnhcfodkgaaGreatDoor

theorem vAdd_pr : ∃ g, PrOk Tryz.prog (fun d => bif d then 96 else 119) [rI 3, rI 3] (rI 3) 0 g := pair_of xmixA (tO_ok [pAdd]) (tC_ok (ks := [1]) rfl) rfl (xa := [(205, true, 8, [rI 3], rI 3)]) (xb := [(192, true, 8, [rI 3], rI 3)]) (da := fun _ => []) (db := fun _ => []) (n := 8) (kk := 0) (by decide +kernel)
def pvAdd : Pr Tryz.prog := mkP 119 96 (by decide +kernel) (by decide +kernel) vAdd_pr
theorem vSub_pr : ∃ g, PrOk Tryz.prog (fun d => bif d then 82 else 138) [rI 3, rI 3] (rI 3) 0 g := pair_of xmixA (tO_ok [pSub]) (tC_ok (ks := [6]) rfl) rfl (xa := [(205, true, 8, [rI 3], rI 3)]) (xb := [(192, true, 8, [rI 3], rI 3)]) (da := fun _ => []) (db := fun _ => []) (n := 8) (kk := 0) (by decide +kernel)
def pvSub : Pr Tryz.prog := mkP 138 82 (by decide +kernel) (by decide +kernel) vSub_pr
theorem vScale_pr : ∃ g, PrOk Tryz.prog (fun d => bif d then 83 else 139) [rI 3, uI] (rI 3) 0 g := pair_of xmixA (tO_ok [pMul]) (tC_ok (ks := [2]) rfl) rfl (xa := [(205, true, 8, [rI 3], rI 3)]) (xb := [(192, true, 8, [rI 3], rI 3)]) (da := fun _ => []) (db := fun _ => []) (n := 8) (kk := 0) (by decide +kernel)
def pvScale : Pr Tryz.prog := mkP 139 83 (by decide +kernel) (by decide +kernel) vScale_pr
theorem vDot_pr : ∃ g, PrOk Tryz.prog (fun d => bif d then 81 else 137) [rI 3, rI 3] (uI) 0 g := pair_of xmixA (tO_ok [pMul, pAdd]) (tC_ok (ks := [2, 1]) rfl) rfl (xa := []) (xb := []) (da := fun _ => []) (db := fun _ => []) (n := 8) (kk := 0) (by decide +kernel)
def pvDot : Pr Tryz.prog := mkP 137 81 (by decide +kernel) (by decide +kernel) vDot_pr
theorem vCross_pr : ∃ g, PrOk Tryz.prog (fun d => bif d then 191 else 270) [rI 3, rI 3] (rI 3) 0 g := pair_of xmixA (tO_ok [pMul, pSub]) (tC_ok (ks := [2, 6]) rfl) rfl (xa := [(205, true, 8, [rI 3], rI 3)]) (xb := [(192, true, 8, [rI 3], rI 3)]) (da := fun _ => []) (db := fun _ => []) (n := 8) (kk := 0) (by decide +kernel)
def pvCross : Pr Tryz.prog := mkP 270 191 (by decide +kernel) (by decide +kernel) vCross_pr
theorem vNorm_pr : ∃ g, PrOk Tryz.prog (fun d => bif d then 23 else 46) [rI 3] (uI) 0 g := pair_of xmixA (tO_ok [pNorm]) (tC_ok (ks := [3]) rfl) rfl (xa := []) (xb := []) (da := fun _ => []) (db := fun _ => []) (n := 8) (kk := 0) (by decide +kernel)
def pvNorm : Pr Tryz.prog := mkP 46 23 (by decide +kernel) (by decide +kernel) vNorm_pr
theorem vUnit0_pr : ∃ g, PrOk Tryz.prog (fun d => bif d then 97 else 240) [rI 3] (rI 3) 0 g := pair_of xmixA (tO_ok [pvNorm, pNorm, pDiv]) (tC_ok (ks := [0, 3, 3]) rfl) rfl (xa := []) (xb := [(192, true, 8, [rI 3], rI 3)]) (da := fun _ => []) (db := fun _ => []) (n := 8) (kk := 0) (by decide +kernel)
theorem vUnit_pr : ∃ g, PrOk Tryz.prog (fun d => bif d then 97 else 240) [rI 3] (rI 3) 7 g := low_of vUnit0_pr (by decide +kernel) vUnit_low
def pvUnit : Pr Tryz.prog := mkP 240 97 (by decide +kernel) (by decide +kernel) vUnit_pr
theorem vParts_pr : ∃ g, PrOk Tryz.prog (fun d => bif d then 80 else 227) [rI 3, rI 3] (.tuple ⟨[uI, uI]⟩) 0 g := pair_of xmixA (tO_ok [pvUnit, pvNorm, pvCross, pvDot, pNorm]) (tC_ok (ks := [7, 0, 0, 0, 3]) rfl) rfl (xa := []) (xb := []) (da := fun _ => []) (db := fun _ => []) (n := 8) (kk := 0) (by decide +kernel)
def pvParts : Pr Tryz.prog := mkP 227 80 (by decide +kernel) (by decide +kernel) vParts_pr
end Go.Proofs.YtoadcnhcfodkgaaGreatDoor.Nx
