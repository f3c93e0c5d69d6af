/-
  Walks of package filter, for the seat YtoadcnhcfodkgaaGreatDoor. (Made by mkfil14.py.)
-/
import Derived.Test.YtoadcnhcfodkgaaGreatDoorXAct
import Derived.Test.YtoadcnhcfodkgaaGreatDoorFCLeaf
import Derived.Handy
import Derived.Deep.RegionHeld3
namespace Go.Proofs.YtoadcnhcfodkgaaGreatDoor
open Go.RowKit

set_option maxRecDepth 100000 in
set_option maxHeartbeats 20000000 in
theorem hmiddle_any (b : Nat) (bad : Bool) (x : Nat → Int) (w : World) (hw : Fl b bad w) :
    Calls Tryz.prog 236 #[.pointer (some ⟨b, 0, none⟩), .agg (row 13 x).toArray] w fun e w' => e = .returned (.int .i64 ((hmiddleS bad x).1)) ∧ Fl b (hmiddleS bad x).2 w' ∧ Kept b w w' := by
  have hl := hw.lies
  go_enter Tryz.func236, Tryz.ntmps236
  have y1_BF : b < w.heap.size := hw.lies
  have c1_B0_0 := row_c (Arr_at w w.heap.size (row 13 x) 272 rfl) 0 (by omega)
  go_wp2_with (refine row_load (ty := 272) rfl rfl rfl (Arr_at _ _ (row 13 x) _ (by simp)) (by kernel_rfl) (by rw [row_len]; kernel_rfl) ?_)
  clear c1_B0_0
  obtain ⟨J0, hJ0⟩ : ∃ J : Nat → Act → World → Prop, Hid (J = fun k a Wl0 => ∀ G_ : Prop, (∀ (s0 : Int × Bool) (A0 C0 : Nat → Value), Hid (hmiddleS_l0 x ((x 0), bad) k = s0) → a = { tmps := #[.pointer (some ⟨b, 0, none⟩), A0 1, A0 2, A0 3, A0 4, .int .i64 s0.1, A0 6, A0 7, A0 8, A0 9, .agg (row 13 x).toArray, .int .i64 (k : Int), A0 12, A0 13, A0 14, A0 15, A0 16, A0 17, A0 18, A0 19, C0 0, C0 1], defers := [] } → Kept b w Wl0 → Fl b s0.2 Wl0 → G_) → G_) := ⟨_, rfl⟩
  refine rounds_up J0 13 ?_ ?_ ?_
  · refine give_act (fun a_ ea_ => ?_)
    rw [hJ0.out]
    intro G_ hG_
    exact hG_ ((x 0), bad) (zS a_ 0) (zS a_ 20) rfl (by subst ea_; rfl) ((Kept.refl b w).al _) (hw.alloc _)
  · intro k a Wl0 hk hI R hR
    rw [hJ0.out] at hI
    refine hI _ ?_
    clear hI
    intro s0 A0 C0 El0 ea Kl0 BF_l0
    subst ea
    have zl0_BF := BF_l0.lies
    have i2_0 : (k : Int) < 13 := by omega
    go_wp2_with fail
    refine (Add_any b s0.2 s0.1 (x k) _ BF_l0).mono ?_
    rintro e w1 ⟨rfl, f1, k1⟩
    generalize e1 : addS s0.2 s0.1 (x k) = r1 at f1 ⊢
    have E1 : Hid _ := e1
    clear e1
    try dsimp only
    have K1 : Kept b w w1 := Kept.trans Kl0 k1
    have z1 := K1.size
    clear i2_0 BF_l0 k1
    go_wp2_with fail
    have hs0 : Hid (hmiddleS_l0 x ((x 0), bad) (k + 1) = (r1.1, r1.2)) := by show _ = _; rw [hmiddleS_l0_succ]; unfold hmiddleS_l0s; simp only [El0.out, E1.out]
    refine give_act (fun a_ ea_ => ?_)
    rw [hJ0.out]
    intro G_ hG_
    exact hG_ (r1.1, r1.2) (zS a_ 0) (zS a_ 20) hs0 (by subst ea_; rfl) K1 f1
  · intro a Wl0 hI R
    rw [hJ0.out] at hI
    refine hI _ ?_
    clear hI hJ0
    intro r2 A0 C0 E2 ea Kl0 BF_l0
    subst ea
    have zl0_BF := BF_l0.lies
    go_wp2_with fail
    refine (Part_any b r2.2 r2.1 1 14 _ BF_l0).mono ?_
    rintro e w3 ⟨rfl, f3, k3⟩
    generalize e3 : partS r2.2 r2.1 1 14 = r3 at f3 ⊢
    have E3 : Hid _ := e3
    clear e3
    try dsimp only
    have K3 : Kept b w w3 := Kept.trans Kl0 k3
    have z3 := K3.size
    clear BF_l0 k3
    go_wp2
    go_ret
    have hs : hmiddleS bad x = (r3.1, r3.2) := by unfold hmiddleS; simp only [E2.out, E3.out]
    rw [hs]
    exact ⟨rfl, f3, K3⟩
end Go.Proofs.YtoadcnhcfodkgaaGreatDoor
