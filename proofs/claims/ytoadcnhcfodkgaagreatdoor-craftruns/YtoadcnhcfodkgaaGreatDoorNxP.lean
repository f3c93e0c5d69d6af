/-
  Over names: filter, points, for the seat YtoadcnhcfodkgaaGreatDoor. (Made by mknx.py.)
-/
import Derived.Test.YtoadcnhcfodkgaaGreatDoorNxM
namespace Go.Proofs.YtoadcnhcfodkgaaGreatDoor.Nx
open Go.RowKit Go.Proofs.YtoadcnhcfodkgaaGreatDoor

theorem mSpread_pr : ∃ g, PrOk Tryz.prog (fun d => bif d then 28 else 52) [rI 43] (uI) 0 g := pair_of xmixA (tO_ok [pAdd]) (tC_ok (ks := [1]) rfl) rfl (xa := []) (xb := []) (da := fun _ => []) (db := fun _ => []) (n := 8) (kk := 0) (by decide +kernel)
def pmSpread : Pr Tryz.prog := mkP 52 28 (by decide +kernel) (by decide +kernel) mSpread_pr
abbrev prs_mPoints : List (Pr Tryz.prog) := [paRoot, pSqrt, pMul]
abbrev ks_mPoints : List Nat := [0, 3, 2]
abbrev xa_mPoints : List Ent := []
abbrev xb_mPoints : List Ent := []
theorem mPoints_1 : chkA Tryz.prog (tO prs_mPoints) xa_mPoints xb_mPoints 140 84 (rI 78) = true := by decide +kernel
theorem mPoints_2 : chkH Tryz.prog (tO prs_mPoints) (tC prs_mPoints ks_mPoints) ks_mPoints false xa_mPoints xb_mPoints (fun _ => []) (fun _ => []) 8 140 84 [rI 43] (rI 78) 0 = true := by decide +kernel
theorem mPoints_3 : chkH Tryz.prog (tO prs_mPoints) (tC prs_mPoints ks_mPoints) ks_mPoints true xb_mPoints xa_mPoints (fun _ => []) (fun _ => []) 8 84 140 [rI 43] (rI 78) 0 = true := by decide +kernel
theorem mPoints_4 : chkB Tryz.prog (tO prs_mPoints) ks_mPoints false xa_mPoints (fun _ => []) 8 140 [rI 43] (rI 78) 0 = true := by decide +kernel
theorem mPoints_5 : chkB Tryz.prog (tO prs_mPoints) ks_mPoints true xb_mPoints (fun _ => []) 8 84 [rI 43] (rI 78) 0 = true := by decide +kernel
theorem mPoints_pr : ∃ g, PrOk Tryz.prog (fun d => bif d then 84 else 140) [rI 43] (rI 78) 0 g := pair_of xmixA (tO_ok _) (tC_ok rfl) rfl (chk_of rfl mPoints_1 mPoints_2 mPoints_3 mPoints_4 mPoints_5)
def pmPoints : Pr Tryz.prog := mkP 140 84 (by decide +kernel) (by decide +kernel) mPoints_pr
end Go.Proofs.YtoadcnhcfodkgaaGreatDoor.Nx
