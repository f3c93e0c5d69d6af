/-
  Over names: trig and clock, for the seat YtoadcnhcfodkgaaGreatDoor. (Made by mknx.py.)
-/
import Derived.Test.YtoadcnhcfodkgaaGreatDoorNxL
namespace Go.Proofs.YtoadcnhcfodkgaaGreatDoor.Nx
open Go.RowKit Go.Proofs.YtoadcnhcfodkgaaGreatDoor

theorem gSin_pr : ∃ g, PrOk Tryz.prog (fun d => bif d then 73 else 129) [uI] (uI) 0 g := pair_of xmixA (tO_ok [pMod, pMul, pSub, pPart]) (tC_ok (ks := [3, 2, 6, 3]) rfl) rfl (xa := [(217, true, 12, [uI], .tuple ⟨[uI, uI]⟩), (219, true, 12, [uI], uI), (218, true, 12, [uI], uI)]) (xb := [(185, true, 12, [uI], uI), (186, true, 12, [uI], uI)]) (da := fun _ => []) (db := fun _ => []) (n := 12) (kk := 0) (by decide +kernel)
def pgSin : Pr Tryz.prog := mkP 129 73 (by decide +kernel) (by decide +kernel) gSin_pr
theorem gCos_pr : ∃ g, PrOk Tryz.prog (fun d => bif d then 74 else 128) [uI] (uI) 0 g := pair_of xmixA (tO_ok [pMod, pMul, pSub, pPart]) (tC_ok (ks := [3, 2, 6, 3]) rfl) rfl (xa := [(217, true, 12, [uI], .tuple ⟨[uI, uI]⟩), (219, true, 12, [uI], uI), (218, true, 12, [uI], uI)]) (xb := [(185, true, 12, [uI], uI), (186, true, 12, [uI], uI)]) (da := fun _ => []) (db := fun _ => []) (n := 12) (kk := 0) (by decide +kernel)
def pgCos : Pr Tryz.prog := mkP 128 74 (by decide +kernel) (by decide +kernel) gCos_pr
theorem kDays_pr : ∃ g, PrOk Tryz.prog (fun d => bif d then 69 else 123) [uI] (uI) 0 g := pair_of xmixA (tO_ok [pPart]) (tC_ok (ks := [3]) rfl) rfl (xa := [(9, false, 8, [uI], unkB)]) (xb := [(17, false, 8, [uI], unkB)]) (da := fun _ => []) (db := fun _ => []) (n := 8) (kk := 0) (by decide +kernel)
def pkDays : Pr Tryz.prog := mkP 123 69 (by decide +kernel) (by decide +kernel) kDays_pr
theorem kTurn_pr : ∃ g, PrOk Tryz.prog (fun d => bif d then 77 else 132) [uI] (uI) 0 g := pair_of xmixA (tO_ok [pPart, pMul, pMod, pAdd]) (tC_ok (ks := [3, 2, 3, 1]) rfl) rfl (xa := [(9, false, 8, [uI], unkB), (123, true, 8, [uI], uI)]) (xb := [(17, false, 8, [uI], unkB), (69, true, 8, [uI], uI)]) (da := fun _ => []) (db := fun _ => []) (n := 8) (kk := 0) (by decide +kernel)
def pkTurn : Pr Tryz.prog := mkP 132 77 (by decide +kernel) (by decide +kernel) kTurn_pr
end Go.Proofs.YtoadcnhcfodkgaaGreatDoor.Nx
