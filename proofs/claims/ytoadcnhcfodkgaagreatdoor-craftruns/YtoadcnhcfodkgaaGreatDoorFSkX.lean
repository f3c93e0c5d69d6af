/-
  What Earth and Sky answer, at all places and ticks, for the seat YtoadcnhcfodkgaaGreatDoor. No Go text in sight.
-/
import Derived.Test.YtoadcnhcfodkgaaGreatDoorFcD
namespace Go.Proofs.YtoadcnhcfodkgaaGreatDoor

def earR (p : V3) : Int × Bool := normS false p.1 p.2.1 p.2.2
/-- Where Earth has an answer. -/
abbrev earIn (p : V3) (t : Int) : Prop := (earR p).2 = false ∧ 6597069766656 ≤ (earR p).1 ∧ (earR p).1 ≤ 10995116277760 ∧ 0 ≤ t ∧ t ≤ 157766400000
/-- Its answer there. -/
def earC (p : V3) : Int := (divS false p.2.2 (earR p).1).1
def earW (p : V3) : Int := (normS false p.1 p.2.1 0).1
def earSn (p : V3) : Int := (divS false (earW p) (earR p).1).1
def earQ (p : V3) : Int := (divS false 7005208482886 (earR p).1).1
def earL (p : V3) : Int × Int := (lonS false p (earW p)).1
def earV (p : V3) (t : Int) : V3 := (vecS false (outS (earC p) (earSn p) (earQ p) (yearS t) (earL p).1 (earL p).2 6) (earC p) (earSn p) (earL p).1 (earL p).2).1
def earS (bad : Bool) (p : V3) (t : Int) : V3 × Bool := if bad = false ∧ earIn p t then (earV p t, false) else ((0, 0, 0), true)
theorem earV_eq {p : V3} {t r : Int} (E : CEa p (yearS t) r) (hr : normS false p.1 p.2.1 p.2.2 = (r, false)) : earV p t = E.b := by
  have e0 : earR p = (r, false) := hr
  have e1 : earC p = E.c := by unfold earC; rw [e0, E.hc]
  have e2 : earW p = E.w := by unfold earW; rw [E.hw]
  have e3 : earSn p = E.s := by unfold earSn; rw [e0, e2, E.hs]
  have e4 : earQ p = E.q := by unfold earQ; rw [e0, E.hq]
  have e5 : earL p = (E.u, E.v) := by
    unfold earL lonS
    rw [e2]
    rcases E.lon with ⟨h, hu, hv⟩ | ⟨h, hu, hv⟩
    · rw [if_pos h, hu, hv]
    · rw [if_neg (by omega), hu]
      show (E.u, (divS false p.2.1 E.w).1) = _
      rw [hv]
  unfold earV
  rw [e1, e3, e4, e5, E.hb]
theorem earS_true (p : V3) (t : Int) : earS true p t = ((0, 0, 0), true) := if_neg (fun h => by cases h.1)
theorem earS_out {p : V3} {t : Int} (h : ¬ earIn p t) : earS false p t = ((0, 0, 0), true) := if_neg (fun k => h k.2)
theorem earS_in {p : V3} {t : Int} (h : earIn p t) : earS false p t = (earV p t, false) := if_pos ⟨rfl, h⟩
/-- Where Earth has an answer all steps are good. -/
theorem ear_at {p : V3} {t : Int} (h : earIn p t) : Nonempty (EarthT p t (earR p).1 (earV p t).1 (earV p t).2.1 (earV p t).2.2) ∧ True := by
  obtain ⟨g, r0, r1, t0, t1⟩ := h
  have hr : normS false p.1 p.2.1 p.2.2 = ((earR p).1, false) := Prod.ext rfl g
  obtain ⟨_, y0, y1⟩ := year_in t0 t1
  obtain ⟨E⟩ := cea_at hr r0 r1 y0 y1
  rw [earV_eq E hr]
  exact ⟨E.steps t0 t1, trivial⟩
theorem earS_eq {p : V3} {t r : Int} (E : CEa p (yearS t) r) (hr : normS false p.1 p.2.1 p.2.2 = (r, false)) (r0 : 6597069766656 ≤ r) (r1 : r ≤ 10995116277760) (t0 : 0 ≤ t) (t1 : t ≤ 157766400000) : earS false p t = (E.b, false) := by
  have e0 : earR p = (r, false) := hr
  rw [earS_in ⟨by rw [e0], by rw [e0]; exact r0, by rw [e0]; exact r1, t0, t1⟩, earV_eq E hr]
theorem earS_flag (bad : Bool) (p : V3) (t : Int) : earS bad p t = ((0, 0, 0), true) ∨ (bad = false ∧ earIn p t ∧ earS bad p t = (earV p t, false)) := by
  unfold earS
  by_cases h : bad = false ∧ earIn p t
  · rw [if_pos h]; exact .inr ⟨h.1, h.2, rfl⟩
  · rw [if_neg h]; exact .inl rfl
theorem vNorm_pair (bad : Bool) (p : V3) : vNormS bad p = normS bad p.1 p.2.1 p.2.2 := rfl
end Go.Proofs.YtoadcnhcfodkgaaGreatDoor
