/-
  Over names: orbit, for the seat YtoadcnhcfodkgaaGreatDoor. (Made by mknx.py.)
-/
import Derived.Test.YtoadcnhcfodkgaaGreatDoorNxG1
import Derived.Test.YtoadcnhcfodkgaaGreatDoorNxOR
namespace Go.Proofs.YtoadcnhcfodkgaaGreatDoor.Nx
open Go.RowKit Go.Proofs.YtoadcnhcfodkgaaGreatDoor

theorem oKepler_pr : ∃ g, PrOk Tryz.prog (fun d => bif d then 76 else 126) [uI, uI] (uI) 0 g := pair_of xmixA (tO_ok [pAdd, pSub, pMul, pDiv, pgSin, pgCos]) (tC_ok (ks := [1, 6, 2, 3, 0, 0]) rfl) rfl (xa := []) (xb := []) (da := fun _ => []) (db := fun _ => []) (n := 8) (kk := 0) (by decide +kernel)
def poKepler : Pr Tryz.prog := mkP 126 76 (by decide +kernel) (by decide +kernel) oKepler_pr
theorem oPlace_pr : ∃ g, PrOk Tryz.prog (fun d => bif d then 20 else 42) [rI 7, uI] (rI 3) 0 g := pair_of xmixA (tO_ok [poRight, pkDays, pDiv, pSqrt, pSub, pMul, pAdd, pPart, pMod, pgSin, pgCos, poKepler]) (tC_ok (ks := [8, 0, 3, 3, 6, 2, 1, 3, 3, 0, 0, 0]) rfl) rfl (xa := [(9, false, 8, [uI], unkB), (124, true, 8, [rI 7], rI 3), (125, true, 8, [rI 7, rI 3, uI], rI 3), (130, true, 8, [uI, uI, uI], .tuple ⟨[uI, uI]⟩)]) (xb := [(17, false, 8, [uI], unkB)]) (da := fun _ => []) (db := fun _ => []) (n := 8) (kk := 0) (by decide +kernel)
def poPlace : Pr Tryz.prog := mkP 42 20 (by decide +kernel) (by decide +kernel) oPlace_pr
end Go.Proofs.YtoadcnhcfodkgaaGreatDoor.Nx
