/-
  Over names: mat, roots, for the seat YtoadcnhcfodkgaaGreatDoor. (Made by mknx.py.)
-/
import Derived.Test.YtoadcnhcfodkgaaGreatDoorNxL
namespace Go.Proofs.YtoadcnhcfodkgaaGreatDoor.Nx
open Go.RowKit Go.Proofs.YtoadcnhcfodkgaaGreatDoor

abbrev prs_aRoot : List (Pr Tryz.prog) := [pAdd, pSub, pMul, pDiv, pSqrt]
abbrev ks_aRoot : List Nat := [1, 6, 2, 3, 3]
abbrev xa_aRoot : List Ent := [(241, true, 8, [(.int .i64 6)], (.bool true)), (242, true, 8, [], uI), (243, true, 8, [uI], uI), (244, true, 8, [rI 36], rI 36)]
abbrev xb_aRoot : List Ent := [(195, true, 8, [(.int .i64 6)], (.bool false))]
theorem aRoot_1 : chkA Tryz.prog (tO prs_aRoot) xa_aRoot xb_aRoot 156 100 (rI 36) = true := by decide +kernel
theorem aRoot_2 : chkH Tryz.prog (tO prs_aRoot) (tC prs_aRoot ks_aRoot) ks_aRoot false xa_aRoot xb_aRoot (fun _ => []) (fun _ => []) 8 156 100 [rI 36, (.int .i64 6)] (rI 36) 0 = true := by decide +kernel
theorem aRoot_3 : chkH Tryz.prog (tO prs_aRoot) (tC prs_aRoot ks_aRoot) ks_aRoot true xb_aRoot xa_aRoot (fun _ => []) (fun _ => []) 8 100 156 [rI 36, (.int .i64 6)] (rI 36) 0 = true := by decide +kernel
theorem aRoot_4 : chkB Tryz.prog (tO prs_aRoot) ks_aRoot false xa_aRoot (fun _ => []) 8 156 [rI 36, (.int .i64 6)] (rI 36) 0 = true := by decide +kernel
theorem aRoot_5 : chkB Tryz.prog (tO prs_aRoot) ks_aRoot true xb_aRoot (fun _ => []) 8 100 [rI 36, (.int .i64 6)] (rI 36) 0 = true := by decide +kernel
theorem aRoot_pr : ∃ g, PrOk Tryz.prog (fun d => bif d then 100 else 156) [rI 36, (.int .i64 6)] (rI 36) 0 g := pair_of xmixA (tO_ok _) (tC_ok rfl) rfl (chk_of rfl aRoot_1 aRoot_2 aRoot_3 aRoot_4 aRoot_5)
def paRoot : Pr Tryz.prog := mkP 156 100 (by decide +kernel) (by decide +kernel) aRoot_pr
end Go.Proofs.YtoadcnhcfodkgaaGreatDoor.Nx
