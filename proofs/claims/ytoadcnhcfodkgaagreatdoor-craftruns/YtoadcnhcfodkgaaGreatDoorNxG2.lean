/-
  Over names: sun, for the seat YtoadcnhcfodkgaaGreatDoor. (Made by mknx.py.)
-/
import Derived.Test.YtoadcnhcfodkgaaGreatDoorNxG1
import Derived.Test.YtoadcnhcfodkgaaGreatDoorNxV
namespace Go.Proofs.YtoadcnhcfodkgaaGreatDoor.Nx
open Go.RowKit Go.Proofs.YtoadcnhcfodkgaaGreatDoor

theorem sDir_pr : ∃ g, PrOk Tryz.prog (fun d => bif d then 21 else 43) [uI] (rI 3) 0 g := pair_of xmixA (tO_ok [pkDays, pMod, pAdd, pMul, pSub, pgSin, pgCos]) (tC_ok (ks := [0, 3, 1, 2, 6, 0, 0]) rfl) rfl (xa := [(131, true, 8, [uI], uI)]) (xb := []) (da := fun _ => []) (db := fun _ => []) (n := 8) (kk := 0) (by decide +kernel)
def psDir : Pr Tryz.prog := mkP 43 21 (by decide +kernel) (by decide +kernel) sDir_pr
theorem sShaded_pr : ∃ g, PrOk Tryz.prog (fun d => bif d then 25 else 48) [rI 3, rI 3] (unkB) 5 g := pair_of xmixA (tO_ok [pvDot, pvNorm, pvSub, pvScale]) (tC_ok (ks := [0, 0, 0, 0]) rfl) rfl (xa := []) (xb := []) (da := fun _ => []) (db := fun _ => []) (n := 8) (kk := 5) (by decide +kernel)
def psShaded : Pr Tryz.prog := mkP 48 25 (by decide +kernel) (by decide +kernel) sShaded_pr
end Go.Proofs.YtoadcnhcfodkgaaGreatDoor.Nx
