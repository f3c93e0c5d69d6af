/-
  longitude and parts, of the field's steps, for the seat YtoadcnhcfodkgaaGreatDoor. (Made by mkfield.py.)
-/
import Derived.Test.YtoadcnhcfodkgaaGreatDoorFEarth
import Derived.Test.YtoadcnhcfodkgaaGreatDoorGLon
import Derived.Test.YtoadcnhcfodkgaaGreatDoorGParts
import Derived.Test.YtoadcnhcfodkgaaGreatDoorXMath
import Derived.Test.YtoadcnhcfodkgaaGreatDoorCTrue
import Derived.Handy
import Derived.Deep.RegionHeld3
namespace Go.Proofs.YtoadcnhcfodkgaaGreatDoor
open Go.RowKit

theorem lon_any (b : Nat) (bad : Bool) (p : V3) (r : Int) (w : World) (hw : Fl b bad w) (u v : Int) (hz : bad = false) (h : lonS false p r = ((u, v), false)) :
    Calls Tryz.prog 220 #[.pointer (some ⟨b, 0, none⟩), .agg #[.int .i64 p.1, .int .i64 p.2.1, .int .i64 p.2.2], .int .i64 r] w fun e w' => e = .returned (.tuple #[.int .i64 (lonS bad p r).1.1, .int .i64 (lonS bad p r).1.2]) ∧ Fl b (lonS bad p r).2 w' ∧ Kept b w w' := by
  subst hz
  rw [h]
  unfold lonS at h
  by_cases c : r < 1048576
  · rw [if_pos c] at h
    simp only [Prod.mk.injEq, and_true] at h
    rw [← h.1, ← h.2]
    exact lon_near b p r w hw c
  · rw [if_neg c] at h
    have b1 : (divS false p.1 r).2 = false := by
      cases e : (divS false p.1 r).2 with
      | false => rfl
      | true => rw [e, divS_true] at h; exact absurd (show true = false from congrArg Prod.snd h) (by decide)
    rw [b1] at h
    have h1 : divS false p.1 r = (u, false) := Prod.ext (congrArg (fun z => z.1.1) h) b1
    have h2 : divS false p.2.1 r = (v, false) := Prod.ext (congrArg (fun z => z.1.2) h) (congrArg (fun z => z.2) h)
    exact lon_far b p r u v w hw c h1 h2
theorem parts_at {p : V3} {t r x y z : Int} (E : EarthT p t r x y z) (b kp kd kq : Nat) (w : World) (hw : Fl b false w) (hp : Mp kp 50 (triM E.P 6 0) w) (hd : Mp kd 50 (triM E.D 6 0) w) (hq : Mp kq 50 (triM E.Q 6 0) w) (hG0 : Arr 0 (row 54 at0) w) (hG1 : Arr 1 (row 10 yr0) w) (hb : 1 < b) (d1 : b ≠ kp) (d2 : b ≠ kd) (d3 : b ≠ kq) :
    Calls Tryz.prog 221 #[.pointer (some ⟨b, 0, none⟩), .agg #[.int .i64 E.nr, .int .i64 (E.g 0), .int .i64 (E.g 1), .int .i64 (E.g 2), .int .i64 (E.g 3), .int .i64 (E.g 4), .int .i64 (E.g 5), .int .i64 (E.g 6), .int .i64 (E.g 7), .int .i64 (E.g 8), .int .i64 (E.g 9), .int .i64 (E.g 10), .int .i64 (E.g 11), .int .i64 (E.g 12), .int .i64 (E.g 13), .map (some kp), .map (some kd), .map (some kq)], .int .i64 t] w fun e w' => e = .returned (.tuple #[.int .i64 (E.st 7 0).1, .int .i64 (E.st 7 0).2.1, .int .i64 (E.st 7 0).2.2]) ∧ Fl b false w' ∧ Kept b w w' := by
  refine parts_any b kp kd kq 50 50 50 (triM E.P 6 0) (triM E.D 6 0) (triM E.Q 6 0) E.g E.tt (fun k m => E.G (k + 1) m) (fun k m => E.H (k + 1) m) (fun k m => E.st (k + 1) m) E.nr t w hw hp hd hq hG0 hG1 hb d1 d2 d3 E.t0 E.tn ?_ E.s0 (fun k hk => E.sn (k + 1) (by omega) (by omega)) ?_
  · intro k m hk hm
    exact E.N (k + 1) m (by omega) (by omega) (by omega)
  · intro k m hk hm
    have e (F : Nat → Nat → Int) : F (k + 1) m = triM F 6 0 ((k : Int) + 1) (m : Int) := (triM_all F (n := k + 1) (m := m) (by omega) (by omega)).symm
    have T := E.T (k + 1) m (by omega) (by omega) (by omega)
    rw [e E.P, e E.D, e E.Q] at T
    exact T
end Go.Proofs.YtoadcnhcfodkgaaGreatDoor
