/-
  What package sun's functions answer, as plain steps, for the seat Ytnfaafdoefpomaa. No Go text in sight. (Made by mksun.py.)
-/
import Derived.Test.YtnfaafdoefpomaaCTrue
import Derived.Test.YtnfaafdoefpomaaSunB
namespace Go.Proofs.Ytnfaafdoefpomaa
open Go.RowKit

def alongS (bad : Bool) (d : Int) : Int × Bool :=
  if bad then (0, true) else
    let g := (6870645337657 + (mulS false 18913766030 d).1) % 6908435304716
    let q := (5399914965875 + (mulS false 18914669500 d).1) % 6908435304716
    (q + (mulS false 36749037801 (sinA false g).1).1 + (mulS false 383801961 (sinA false (2 * g)).1).1, false)
theorem alongS_true (d : Int) : alongS true d = (0, true) := rfl
theorem along_good {d : Int} (Q : SunS d) : alongS false d = ((5399914965875 + Q.q1) % 6908435304716 + Q.a + Q.b, false) := by
  unfold alongS
  rw [if_neg (by decide)]
  simp only [Q.hg1, Q.hq1, Q.hsg, Q.hs2, Q.ha, Q.hb]
/-- The sun's direction, at a right tick. -/
def dirV (t : Int) : V3 :=
  let d := (cDaysS false t).1
  let l := (alongS false d).1
  let e := (subS false 449733620800 (mulS false 6908 d).1).1
  ((cosA false l).1, (mulS false (cosA false e).1 (sinA false l).1).1, (mulS false (sinA false e).1 (sinA false l).1).1)
def dirS (bad : Bool) (t : Int) : V3 × Bool := if cRight t && !bad then (dirV t, false) else ((0, 0, 0), true)
structure DirS (t : Int) : Type where
  (d : Int)
  hd : cDaysS false t = (d, false)
  Q : SunS d
  e : dirS false t = ((Q.cl, Q.Y, Q.Z), false)
theorem dir_at {t : Int} (h0 : 0 ≤ t) (h1 : t ≤ 157766400000) : Nonempty (DirS t) := by
  have hd := cDaysS_in h0 h1
  have d1 : 0 ≤ cDay t ∧ cDay t ≤ 2007708232318976 := by unfold cDay rnd; omega
  obtain ⟨Q⟩ := sun_at d1.1 d1.2
  refine ⟨⟨_, hd, Q, ?_⟩⟩
  unfold dirS dirV
  rw [cRight_in h0 h1, hd]
  simp only [along_good Q, Q.hsl, Q.hcl, Q.he1, Q.he, Q.hse, Q.hce, Q.hY, Q.hZ]
  rfl
theorem dirS_cases (bad : Bool) (t : Int) : (¬ (0 ≤ t ∧ t ≤ 157766400000) ∧ dirS bad t = ((0, 0, 0), true)) ∨ (bad = true ∧ dirS bad t = ((0, 0, 0), true)) ∨ (bad = false ∧ Nonempty (DirS t)) := by
  rcases cRight_cases t with ⟨h0, h1⟩ | hn
  · cases bad
    · exact .inr (.inr ⟨rfl, dir_at h0 h1⟩)
    · exact .inr (.inl ⟨rfl, by unfold dirS; rw [show (!true) = false from rfl, Bool.and_false]; rfl⟩)
  · exact .inl ⟨hn, by unfold dirS; rw [cRight_out hn]; rfl⟩
theorem dirS_out {t : Int} (hn : ¬ (0 ≤ t ∧ t ≤ 157766400000)) : dirS false t = ((0, 0, 0), true) := by unfold dirS; rw [cRight_out hn]; rfl
theorem dirS_true (t : Int) : dirS true t = ((0, 0, 0), true) := by unfold dirS; rw [show (!true) = false from rfl, Bool.and_false]; rfl
def shadS (bad : Bool) (p : V3) (s : V3) : (Bool) × Bool := let r1 := vDotS bad p s; let r2 := vScaleS r1.2 s r1.1; let r3 := vSubS r2.2 p r2.1; let r4 := vNormS r3.2 r3.1; if r4.2 then (false, r4.2) else if r1.1 < 0 then ((decide (r4.1 < 7012835795048)), r4.2) else (false, r4.2)
def shadR (bad : Bool) (p : V3) (s : V3) : (Bool) × Bool := let r1 := vDotS bad p s; let r2 := vScaleS r1.2 s r1.1; let r3 := vSubS r2.2 p r2.1; let r4 := vNormS r3.2 r3.1; if r4.2 then (false, r4.2) else if r1.1 < 0 then ((decide (r4.1 < 7012835795048)), r4.2) else (false, r4.2)
theorem shadR_eq : shadR = shadS := by
  funext bad p s
  unfold shadR shadS
  rfl
theorem shad_of {p s : V3} (H : Shade p s) : shadS false p s = (decide (H.c < 0) && decide (H.n < 7012835795048), false) := by
  unfold shadS
  simp only [H.hc, H.ht, H.hu, H.hn]
  by_cases c : H.c < 0
  · simp [c]
  · simp [c]
end Go.Proofs.Ytnfaafdoefpomaa
