/-
  field.Earth where it has no answer, by the symbolic run, for the seat YtoadcnhcfodkgaaGreatDoor.
-/
import Derived.Test.YtoadcnhcfodkgaaGreatDoorVcX
import Derived.Test.YtoadcnhcfodkgaaGreatDoorEaB
import Derived.Test.YtoadcnhcfodkgaaGreatDoorCCDays
namespace Go.Proofs.YtoadcnhcfodkgaaGreatDoor
open Go.RowKit

def gxR : Ct Tryz.prog := pureCt Tryz.prog 9 (lone' cI) cRight cB (go_of Tryz.func9 (by kernel_rfl) (by kernel_rfl)) (fun x w _ => cRight_any x w)
def gxO : Ov := fun id => match id with
  | 5 => some (fun _ _ _ _ _ => False)
  | _ => none
set_option maxRecDepth 100000 in
theorem gx_run (p : V3) (t : Int) (bad : Bool) (Post : Value → Option Bool → Prop) : swpO Tryz.prog [vcNo, gxR, vcFail] (fun _ => []) 4 gxO (bodyOf Tryz.prog 133) (retQ Tryz.prog (fnOf Tryz.prog 133) (fun v m => Post v (flagOf m))) ((ptr 0 :: (then' cV3 (lone' cI)).enc (p, t)) ++ List.replicate ((fnOf Tryz.prog 133).ntmps - (ptr 0 :: (then' cV3 (lone' cI)).enc (p, t)).length) undef) [[.bool bad]] =
    vif (decide ((vNormS bad p).1 < 6597069766656)) (Post zer3 (some true)) (vif (decide ((vNormS bad p).1 > 10995116277760)) (Post zer3 (some true)) (vif (!cRight t) (Post zer3 (some true)) False)) := by kernel_rfl
set_option maxRecDepth 100000 in
theorem gx_ov (B : Nat) (w : World) : OvOk Tryz.prog gxO [B] w [] [some B] (bodyOf Tryz.prog 133) := by
  refine ovOk_by (ns := [(5, opsOf Tryz.prog 133 5, false)]) (by kernel_rfl) ?_
  intro r hr
  simp only [List.mem_cons, List.not_mem_nil, or_false] at hr
  subst hr
  intro R hR K Q bl vt m a w h r hK
  cases hR
  exact h.elim
set_option maxRecDepth 100000 in
theorem gx_any {p : V3} {t : Int} {bad : Bool} (h : (vNormS bad p).1 < 6597069766656 ∨ (vNormS bad p).1 > 10995116277760 ∨ cRight t = false) (b : Nat) (w : World) (hw : Fl b bad w) (hg : GW w) (hb : 1 < b) :
    Calls Tryz.prog 133 #[.pointer (some ⟨b, 0, none⟩), .agg #[.int .i64 p.1, .int .i64 p.2.1, .int .i64 p.2.2], .int .i64 t] w fun e w' => e = .returned (.agg #[.int .i64 0, .int .i64 0, .int .i64 0]) ∧ Fl b true w' ∧ Kept b w w' := by
  refine flow_onceO (d := then' cV3 (lone' cI)) (x := (p, t)) (bad := bad) (bad' := true) (u := zer3) (tbl := [vcNo, gxR, vcFail]) (dirty := fun _ => []) (n := 4) (ov := gxO) xmixA (by kernel_rfl) (by kernel_rfl) gx_ov (Eq.mpr (gx_run p t bad (fun v f => v = zer3 ∧ f = some true)) ?_) b w hg hb hw
  by_cases c1 : (vNormS bad p).1 < 6597069766656
  · rw [decide_eq_true c1]; exact ⟨rfl, rfl⟩
  rw [decide_eq_false c1]
  by_cases c2 : (vNormS bad p).1 > 10995116277760
  · rw [decide_eq_true c2]; exact ⟨rfl, rfl⟩
  rw [decide_eq_false c2, (h.resolve_left c1).resolve_left c2]
  exact ⟨rfl, rfl⟩
end Go.Proofs.YtoadcnhcfodkgaaGreatDoor
