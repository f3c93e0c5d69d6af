/-
  Over names: mat, for the seat YtoadcnhcfodkgaaGreatDoor. (Made by mknx.py.)
-/
import Derived.Test.YtoadcnhcfodkgaaGreatDoorNxL
namespace Go.Proofs.YtoadcnhcfodkgaaGreatDoor.Nx
open Go.RowKit Go.Proofs.YtoadcnhcfodkgaaGreatDoor

abbrev prs_aSolve : List (Pr Tryz.prog) := [pAdd, pSub, pMul, pDiv]
abbrev ks_aSolve : List Nat := [1, 6, 2, 3]
abbrev xa_aSolve : List Ent := [(241, true, 8, [(.int .i64 6)], (.bool true)), (242, true, 8, [], uI), (247, true, 8, [rI 36, rI 6, (.int .i64 6)], rI 6), (246, true, 8, [rI 6], rI 6)]
abbrev xb_aSolve : List Ent := [(195, true, 8, [(.int .i64 6)], (.bool false))]
theorem aSolve_1 : chkA Tryz.prog (tO prs_aSolve) xa_aSolve xb_aSolve 158 101 (rI 6) = true := by decide +kernel
theorem aSolve_2 : chkH Tryz.prog (tO prs_aSolve) (tC prs_aSolve ks_aSolve) ks_aSolve false xa_aSolve xb_aSolve (fun _ => []) (fun _ => []) 8 158 101 [rI 36, rI 6, (.int .i64 6)] (rI 6) 0 = true := by decide +kernel
theorem aSolve_3 : chkH Tryz.prog (tO prs_aSolve) (tC prs_aSolve ks_aSolve) ks_aSolve true xb_aSolve xa_aSolve (fun _ => []) (fun _ => []) 8 101 158 [rI 36, rI 6, (.int .i64 6)] (rI 6) 0 = true := by decide +kernel
theorem aSolve_4 : chkB Tryz.prog (tO prs_aSolve) ks_aSolve false xa_aSolve (fun _ => []) 8 158 [rI 36, rI 6, (.int .i64 6)] (rI 6) 0 = true := by decide +kernel
theorem aSolve_5 : chkB Tryz.prog (tO prs_aSolve) ks_aSolve true xb_aSolve (fun _ => []) 8 101 [rI 36, rI 6, (.int .i64 6)] (rI 6) 0 = true := by decide +kernel
theorem aSolve_pr : ∃ g, PrOk Tryz.prog (fun d => bif d then 101 else 158) [rI 36, rI 6, (.int .i64 6)] (rI 6) 0 g := pair_of xmixA (tO_ok _) (tC_ok rfl) rfl (chk_of rfl aSolve_1 aSolve_2 aSolve_3 aSolve_4 aSolve_5)
def paSolve : Pr Tryz.prog := mkP 158 101 (by decide +kernel) (by decide +kernel) aSolve_pr
abbrev prs_aApply : List (Pr Tryz.prog) := [pAdd, pMul]
abbrev ks_aApply : List Nat := [1, 2]
abbrev xa_aApply : List Ent := [(241, true, 8, [(.int .i64 6)], (.bool true)), (245, true, 8, [rI 6, rI 6, (.int .i64 6)], uI), (246, true, 8, [rI 6], rI 6)]
abbrev xb_aApply : List Ent := [(195, true, 8, [(.int .i64 6)], (.bool false))]
theorem aApply_1 : chkA Tryz.prog (tO prs_aApply) xa_aApply xb_aApply 157 102 (rI 6) = true := by decide +kernel
theorem aApply_2 : chkH Tryz.prog (tO prs_aApply) (tC prs_aApply ks_aApply) ks_aApply false xa_aApply xb_aApply (fun _ => []) (fun _ => []) 8 157 102 [rI 36, rI 6, (.int .i64 6)] (rI 6) 0 = true := by decide +kernel
theorem aApply_3 : chkH Tryz.prog (tO prs_aApply) (tC prs_aApply ks_aApply) ks_aApply true xb_aApply xa_aApply (fun _ => []) (fun _ => []) 8 102 157 [rI 36, rI 6, (.int .i64 6)] (rI 6) 0 = true := by decide +kernel
theorem aApply_4 : chkB Tryz.prog (tO prs_aApply) ks_aApply false xa_aApply (fun _ => []) 8 157 [rI 36, rI 6, (.int .i64 6)] (rI 6) 0 = true := by decide +kernel
theorem aApply_5 : chkB Tryz.prog (tO prs_aApply) ks_aApply true xb_aApply (fun _ => []) 8 102 [rI 36, rI 6, (.int .i64 6)] (rI 6) 0 = true := by decide +kernel
theorem aApply_pr : ∃ g, PrOk Tryz.prog (fun d => bif d then 102 else 157) [rI 36, rI 6, (.int .i64 6)] (rI 6) 0 g := pair_of xmixA (tO_ok _) (tC_ok rfl) rfl (chk_of rfl aApply_1 aApply_2 aApply_3 aApply_4 aApply_5)
def paApply : Pr Tryz.prog := mkP 157 102 (by decide +kernel) (by decide +kernel) aApply_pr
end Go.Proofs.YtoadcnhcfodkgaaGreatDoor.Nx
