/-
  workBelow and workEven, of what lies in the maps, for the seat YtoadcnhcfodkgaaGreatDoor. (Made by mkfield.py.)
-/
import Derived.Test.YtoadcnhcfodkgaaGreatDoorGBelow
import Derived.Test.YtoadcnhcfodkgaaGreatDoorGEven
import Derived.Test.YtoadcnhcfodkgaaGreatDoorFShape
import Derived.Handy
import Derived.Deep.RegionHeld3
namespace Go.Proofs.YtoadcnhcfodkgaaGreatDoor
open Go.RowKit

theorem below_at (b kp kd kq k m : Nat) (c s : Int) (P D Q : Nat → Nat → Int) (Z : Tri c s P D Q) (w : World) (hw : Fl b false w) (hp : Mp kp (8 * k + m + 2) (triM P k m) w) (hd : Mp kd (8 * k + m + 2) (triM D k m) w) (hq : Mp kq (8 * k + m + 2) (triM Q k m) w) (d1 : b ≠ kp) (d2 : b ≠ kd) (d3 : b ≠ kq) (d4 : kp ≠ kd) (d5 : kp ≠ kq) (d6 : kd ≠ kq) (hk : k < 6) (hm : m < k + 1) :
    Calls Tryz.prog 267 #[.agg #[.map (some kp), .map (some kd), .map (some kq)], .pointer (some ⟨b, 0, none⟩), .int .i64 ((k : Int) + 1), .int .i64 (m : Int), .int .i64 c, .int .i64 s] w fun e w' => e = .returned (.tuple #[]) ∧ Fl b false w' ∧ Mp kp (8 * k + (m + 1) + 2) (triM P k (m + 1)) w' ∧ Mp kd (8 * k + (m + 1) + 2) (triM D k (m + 1)) w' ∧ Mp kq (8 * k + (m + 1) + 2) (triM Q k (m + 1)) w' ∧ KeptL [b, kp, kd, kq] w w' := by
  have T := Z.T k m hk hm
  have U := Z.U k m hk hm
  rw [← triM_last P hm, ← triM_last D hm, ← triM_other P, ← triM_other D] at T
  rw [← triM_last Q hm, ← triM_other Q] at U
  have ip := Z.ip (k + 1) m (by omega); have id := Z.id (k + 1) m (by omega); have iq := Z.iq (k + 1) m (by omega)
  by_cases h : (m : Int) > 0
  · refine (below_pos b kp kd kq _ _ _ _ _ _ ((k : Int) + 1) m c s _ _ _ _ _ w hw hp hd hq d1 d2 d3 d4 d5 d6 (by omega) (by omega) (by omega) (by omega) (by omega) (by omega) (by omega) (Z.R k m hk hm) T ip id U iq h).mono ?_
    rintro e w' ⟨he, f, p, d, q, kp⟩
    exact ⟨he, f, (p.mono (by omega)).eqv (triM_put P hm), (d.mono (by omega)).eqv (triM_put D hm), (q.mono (by omega)).eqv (triM_put Q hm), kp⟩
  · obtain rfl : m = 0 := by omega
    refine (below_zero b kp kd kq _ _ _ _ _ _ ((k : Int) + 1) ((0 : Nat) : Int) c s _ _ _ _ w hw hp hd hq d1 d2 d3 d4 d5 d6 (by omega) (by omega) (by omega) (by omega) (by omega) (Z.R k 0 hk hm) T ip id h).mono ?_
    rintro e w' ⟨he, f, p, d, q, kp⟩
    exact ⟨he, f, (p.mono (by omega)).eqv (triM_put P hm), (d.mono (by omega)).eqv (triM_put D hm), (q.mono (by omega)).eqv (triM_same Q k (Z.qz (k + 1) (by omega))), kp⟩
theorem even_at (b kp kd kq k : Nat) (c s : Int) (P D Q : Nat → Nat → Int) (Z : Tri c s P D Q) (w : World) (hw : Fl b false w) (hp : Mp kp (8 * k + (k + 1) + 2) (triM P k (k + 1)) w) (hd : Mp kd (8 * k + (k + 1) + 2) (triM D k (k + 1)) w) (hq : Mp kq (8 * k + (k + 1) + 2) (triM Q k (k + 1)) w) (d1 : b ≠ kp) (d2 : b ≠ kd) (d3 : b ≠ kq) (d4 : kp ≠ kd) (d5 : kp ≠ kq) (d6 : kd ≠ kq) (hk : k < 6) (h : (k : Int) + 1 > 1) :
    Calls Tryz.prog 268 #[.agg #[.map (some kp), .map (some kd), .map (some kq)], .pointer (some ⟨b, 0, none⟩), .int .i64 ((k : Int) + 1), .int .i64 c, .int .i64 s] w fun e w' => e = .returned (.tuple #[]) ∧ Fl b false w' ∧ Mp kp (8 * (k + 1) + 2) (triM P (k + 1) 0) w' ∧ Mp kd (8 * (k + 1) + 2) (triM D (k + 1) 0) w' ∧ Mp kq (8 * (k + 1) + 2) (triM Q (k + 1) 0) w' ∧ KeptL [b, kp, kd, kq] w w' := by
  have J := Z.J k (by omega) hk
  rw [← triM_even P, ← triM_even D, ← triM_even Q] at J
  have ip := Z.ip (k + 1) (k + 1) (by omega); have id := Z.id (k + 1) (k + 1) (by omega); have iq := Z.iq (k + 1) (k + 1) (by omega)
  refine (even_any b kp kd kq _ _ _ _ _ _ ((k : Int) + 1) c s _ _ _ w hw hp hd hq d1 d2 d3 d4 d5 d6 (by omega) (by omega) (by omega) (by omega) (by omega) J ip id iq).mono ?_
  rintro e w' ⟨he, f, p, d, q, kp⟩
  exact ⟨he, f, (p.mono (by omega)).eqv (triM_diag P k), (d.mono (by omega)).eqv (triM_diag D k), (q.mono (by omega)).eqv (triM_diag Q k), kp⟩
end Go.Proofs.YtoadcnhcfodkgaaGreatDoor
