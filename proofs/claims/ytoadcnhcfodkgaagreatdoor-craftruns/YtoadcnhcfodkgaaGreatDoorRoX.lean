/-
  The code's roundsOf by the symbolic run, round by round, for the seat YtoadcnhcfodkgaaGreatDoor.
-/
import Derived.Test.YtoadcnhcfodkgaaGreatDoorEaB
import Derived.Test.YtoadcnhcfodkgaaGreatDoorBdG
namespace Go.Proofs.YtoadcnhcfodkgaaGreatDoor
open Go.RowKit

def roT : List (Ct Tryz.prog) := [cMulB, cAddB, cSubB]
def roF (u v n : Int) (d : Nat → Value) : List Value := frm [(0, ptr 0), (1, .int .i64 u), (2, .int .i64 v), (6, ptr 1), (7, ptr 2), (8, .int .i64 n)] d 54
def roE (u v : Int) (d : Nat → Value) : List Value := vset (((roF u v 7 d).set 13 (.int .i64 7)).set 14 (.bool false)) (.tmp 14) false
def roM (fl : Bool) (g h : Nat → Int) : Xm := [[.bool fl], r7 (fun _ => 0) ++ r7 (fun _ => 0), r7 g ++ r7 h]
def roO : Ov := fun id => match id with
  | 3 => some (cutBy Tryz.prog roT (fun _ => []) 3 [0, 1, 2, 6, 7, 8] 54 3)
  | 5 => some (cutBy Tryz.prog roT (fun _ => []) 5 [0, 1, 2, 6, 7, 8] 54 3)
  | _ => none
def roL (P : Program) : Code := cpart (trues 3 ++ [false, true]) (bodyOf P 222)
def roX (P : Program) : Code := cpart [false, false] (roL P)
def roB (P : Program) : Code := cpart (trues 4) (bodyOf P 222)
def roQ (Q : VQ) : VQ := fun e vt m => match e with
  | .normal => swpO Tryz.prog roT (fun _ => []) 9 roO (roB Tryz.prog) (Q) (vt) (m)
  | e => Q e vt m
theorem roQ_n (Q : VQ) (vt : List Value) (m : Xm) : roQ Q .normal vt m = swpO Tryz.prog roT (fun _ => []) 9 roO (roB Tryz.prog) Q vt m := by unfold roQ; rfl
set_option maxRecDepth 100000 in
theorem ro_start (u v : Int) (fl : Bool) (Q : VQ) : swpO Tryz.prog roT (fun _ => []) 9 roO (bodyOf Tryz.prog 222) Q ([ptr 0, .int .i64 u, .int .i64 v] ++ List.replicate ((fnOf Tryz.prog 222).ntmps - 3) undef) [[.bool fl]] =
    (54 = 54 ∧ true = true ∧ ∀ D, swpO Tryz.prog roT (fun _ => []) 9 roO (roL Tryz.prog) (roQ Q) (roF u v 1 D) (roM fl (updF (fun _ => 0) 0 1099511627776) (fun _ => 0))) := by kernel_rfl
set_option maxRecDepth 100000 in
theorem ro_loop (Q : VQ) (vt : List Value) (m : Xm) : swpO Tryz.prog roT (fun _ => []) 9 roO (roL Tryz.prog) (Q) (vt) (m) = loopN 9 (swpO Tryz.prog roT (fun _ => []) 9 roO (roX Tryz.prog)) (lxB 0 Q) vt m := by kernel_rfl
set_option maxRecDepth 100000 in
theorem ro_r {k : Nat} (hk : k < 6) (u v : Int) (g h : Nat → Int) (fl : Bool) (D : Nat → Value) (Q : VQ) : swpO Tryz.prog roT (fun _ => []) 9 roO (roX Tryz.prog) (Q) (roF u v (k + 1 : Nat) D) (roM fl g h) =
    (54 = 54 ∧ true = true ∧ ∀ D, Q .normal (roF u v ((k + 1 : Nat) + 1) D) (roM (eaR fl u v (g k) (h k)).2 (updF g (k + 1) (eaR fl u v (g k) (h k)).1.1) (updF h (k + 1) (eaR fl u v (g k) (h k)).1.2))) := by
  obtain rfl | rfl | rfl | rfl | rfl | rfl : k = 0 ∨ k = 1 ∨ k = 2 ∨ k = 3 ∨ k = 4 ∨ k = 5 := by omega
  all_goals kernel_rfl
set_option maxRecDepth 100000 in
theorem ro_f (u v : Int) (g h : Nat → Int) (fl : Bool) (D : Nat → Value) (Q : VQ) : swpO Tryz.prog roT (fun _ => []) 9 roO (roX Tryz.prog) (Q) (roF u v 7 D) (roM fl g h) = Q (.exit 0) (roE u v D) (roM fl g h) := by kernel_rfl
set_option maxRecDepth 100000 in
theorem ro_last (u v : Int) (g h : Nat → Int) (fl : Bool) (D : Nat → Value) (Post : Value → Option Bool → Prop) : swpO Tryz.prog roT (fun _ => []) 9 roO (roB Tryz.prog) (retQ Tryz.prog (fnOf Tryz.prog 222) (fun v m => Post v (flagOf m))) (roE u v D) (roM fl g h) = Post (.agg (r7 g ++ r7 h).toArray) (some fl) := by kernel_rfl
set_option maxRecDepth 100000 in
theorem ro_ov (B : Nat) (w : World) : OvOk Tryz.prog roO [B] w [] [some B] (bodyOf Tryz.prog 222) := by
  refine ovOk_by (ns := [(3, opsOf Tryz.prog 222 3, false), (5, opsOf Tryz.prog 222 5, false)]) (by kernel_rfl) ?_
  intro r hr
  simp only [List.mem_cons, List.not_mem_nil, or_false] at hr
  rcases hr with rfl | rfl
  all_goals
    intro R hR K Q bl vt m a w h r hK
    cases hR
    exact cutBy_sound xmixA (show 1 ≤ 3 by decide) h r hK
set_option maxRecDepth 100000 in
theorem ro_go (u v : Int) (g : Nat → Int) (T : ∀ m, m < 6 → Nonempty (WaveT (g m) (g (7 + m)) u v (g (m + 1)) (g (8 + m)))) (Q : VQ) (hQ : ∀ d, Q (.exit 0) (roE u v d) (roM false (cutF g 6) (cutF (fun i => g (7 + i)) 6))) :
    ∀ (j k f : Nat), k + j = 6 → j < f → ∀ d, loopN f (swpO Tryz.prog roT (fun _ => []) 9 roO (roX Tryz.prog)) Q (roF u v (k + 1 : Nat) d) (roM false (cutF g k) (cutF (fun i => g (7 + i)) k))
  | j, k, 0, _, hf, _ => by omega
  | 0, k, f + 1, hk, _, d => by
    have e : k = 6 := by omega
    subst e
    have := ro_f u v (cutF g 6) (cutF (fun i => g (7 + i)) 6) false d
    rw [loopN, show ((6 + 1 : Nat) : Int) = 7 from rfl, this]
    exact hQ d
  | j + 1, k, f + 1, hk, hf, d => by
    obtain ⟨W⟩ := T k (by omega)
    rw [loopN, ro_r (by omega), cutF_at g (Nat.le_refl k), cutF_at (fun i => g (7 + i)) (Nat.le_refl k), eaR_is W]
    refine ⟨rfl, rfl, fun d' => ?_⟩
    dsimp only
    rw [cutF_put, cutF_next]
    exact ro_go u v g T Q hQ j (k + 1) f (by omega) (by omega) d'
set_option maxRecDepth 100000 in
theorem rounds_any (b : Nat) (u v : Int) (g : Nat → Int) (w : World) (hw : Fl b false w) (hg : GW w) (hb : 1 < b) (e0 : g 0 = 1099511627776) (e7 : g 7 = 0) (T : ∀ m, m < 6 → Nonempty (WaveT (g m) (g (7 + m)) u v (g (m + 1)) (g (8 + m)))) :
    Calls Tryz.prog 222 #[.pointer (some ⟨b, 0, none⟩), .int .i64 u, .int .i64 v] w fun e w' => e = .returned (.agg #[.int .i64 (g 0), .int .i64 (g 1), .int .i64 (g 2), .int .i64 (g 3), .int .i64 (g 4), .int .i64 (g 5), .int .i64 (g 6), .int .i64 (g 7), .int .i64 (g 8), .int .i64 (g 9), .int .i64 (g 10), .int .i64 (g 11), .int .i64 (g 12), .int .i64 (g 13)]) ∧ Fl b false w' ∧ Kept b w w' := by
  refine flow_onceO (d := then' cI (lone' cI)) (x := (u, v)) (bad := false) (tbl := roT) (dirty := fun _ => []) (n := 9) (ov := roO) xmixA (by kernel_rfl) (by kernel_rfl) ro_ov ?_ b w hg hb hw
  refine Eq.mpr (ro_start u v false _) ⟨rfl, rfl, fun d => ?_⟩
  have e : roM false (updF (fun _ => 0) 0 1099511627776) (fun _ => 0) = roM false (cutF g 0) (cutF (fun i => g (7 + i)) 0) := by rw [cutF_start g e0, ← cutF_zero (fun i => g (7 + i)) e7]
  rw [ro_loop, e]
  refine ro_go u v g T _ (fun d1 => ?_) 6 0 9 rfl (by decide) d
  rw [lxB_exit, roQ_n]
  exact Eq.mpr (ro_last u v _ _ false d1 (fun v f => v = _ ∧ f = some false)) ⟨rfl, rfl⟩
end Go.Proofs.YtoadcnhcfodkgaaGreatDoor
