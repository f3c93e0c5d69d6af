/-
  Over names: quat, for the seat YtoadcnhcfodkgaaGreatDoor. (Made by mknx.py.)
-/
import Derived.Test.YtoadcnhcfodkgaaGreatDoorNxV
namespace Go.Proofs.YtoadcnhcfodkgaaGreatDoor.Nx
open Go.RowKit Go.Proofs.YtoadcnhcfodkgaaGreatDoor

theorem qMul_pr : ∃ g, PrOk Tryz.prog (fun d => bif d then 86 else 230) [rI 4, rI 4] (rI 4) 0 g := pair_of xmixA (tO_ok [pvScale, pvAdd, pvCross, pvDot, pSub, pMul]) (tC_ok (ks := [0, 0, 0, 0, 6, 2]) rfl) rfl (xa := [(232, false, 8, [rI 4], .tuple ⟨[rI 3, uI]⟩), (272, false, 8, [rI 3, uI], rI 4), (271, true, 8, [rI 4], rI 4)]) (xb := [(193, false, 8, [rI 4], .tuple ⟨[rI 3, uI]⟩), (194, true, 8, [rI 3, uI], rI 4)]) (da := fun _ => []) (db := fun _ => []) (n := 8) (kk := 0) (by decide +kernel)
def pqMul : Pr Tryz.prog := mkP 230 86 (by decide +kernel) (by decide +kernel) qMul_pr
theorem qUnit_pr : ∃ g, PrOk Tryz.prog (fun d => bif d then 89 else 142) [rI 4] (rI 4) 4 g := pair_of xmixA (tO_ok [pNorm, pDiv]) (tC_ok (ks := [3, 3]) rfl) rfl (xa := [(232, false, 8, [rI 4], .tuple ⟨[rI 3, uI]⟩), (273, false, 8, [uI], uI), (233, false, 8, [rI 4], rI 4), (46, true, 8, [rI 3], uI)]) (xb := []) (da := fun _ => []) (db := fun _ => []) (n := 8) (kk := 4) (by decide +kernel)
def pqUnit : Pr Tryz.prog := mkP 142 89 (by decide +kernel) (by decide +kernel) qUnit_pr
theorem qFromRod_pr : ∃ g, PrOk Tryz.prog (fun d => bif d then 87 else 231) [rI 3] (rI 4) 0 g := pair_of xmixA (tO_ok [pvDot, pAdd, pMul, pSub, pDiv, pqUnit]) (tC_ok (ks := [0, 1, 2, 6, 3, 4]) rfl) rfl (xa := []) (xb := []) (da := fun _ => []) (db := fun _ => []) (n := 8) (kk := 0) (by decide +kernel)
def pqFromRod : Pr Tryz.prog := mkP 231 87 (by decide +kernel) (by decide +kernel) qFromRod_pr
theorem qTurn_pr : ∃ g, PrOk Tryz.prog (fun d => bif d then 99 else 239) [rI 4, rI 3] (rI 3) 0 g := pair_of xmixA (tO_ok [pvScale, pvCross, pvAdd, pvSub]) (tC_ok (ks := [0, 0, 0, 0]) rfl) rfl (xa := [(232, false, 8, [rI 4], .tuple ⟨[rI 3, uI]⟩)]) (xb := [(193, false, 8, [rI 4], .tuple ⟨[rI 3, uI]⟩)]) (da := fun _ => []) (db := fun _ => []) (n := 8) (kk := 0) (by decide +kernel)
def pqTurn : Pr Tryz.prog := mkP 239 99 (by decide +kernel) (by decide +kernel) qTurn_pr
theorem qToRod_pr : ∃ g, PrOk Tryz.prog (fun d => bif d then 90 else 234) [rI 4] (rI 3) 0 g := pair_of xmixA (tO_ok [pAdd, pMul, pDiv]) (tC_ok (ks := [1, 2, 3]) rfl) rfl (xa := [(273, false, 8, [uI], uI), (233, false, 8, [rI 4], rI 4), (274, true, 8, [rI 3], rI 3)]) (xb := []) (da := fun _ => []) (db := fun _ => []) (n := 8) (kk := 0) (by decide +kernel)
def pqToRod : Pr Tryz.prog := mkP 234 90 (by decide +kernel) (by decide +kernel) qToRod_pr
end Go.Proofs.YtoadcnhcfodkgaaGreatDoor.Nx
