/-
  The code's step is the document's, whole, for the seat YtoadcnhcfodkgaaGreatDoor. No Go text in sight.
-/
import Derived.Test.YtoadcnhcfodkgaaGreatDoorDsL
namespace Go.Proofs.YtoadcnhcfodkgaaGreatDoor
open Go.RowKit

/-- What is wanted of a craft, and of what comes, that a step of the code be the document's. -/
structure Fit (F : Fs) (c : Cra) (t : Int) (b : ByteArray) : Prop where
  kind : ∀ f, (F.read f).2 = true → (F.read f).1.1 = f.1
  right : F.right t = true → 0 ≤ t ∧ t ≤ 4611686018427387904
  tick : 0 ≤ c.2.1 ∧ c.2.1 ≤ 4611686018427387904
  keepOn : (takeW F c t b).1.1 = c.1
  keepTick : (takeW F c t b).1.2.1 = c.2.1
  drift : -9223372036854775808 ≤ (takeW F c t b).1.2.2.2.2.2.2.1.2.1 ∧ (takeW F c t b).1.2.2.2.2.2.2.1.2.1 ≤ 9223372036854775807
  mag : -9223372036854775808 ≤ (takeW F c t b).2.2.2.1.2.1 ∧ (takeW F c t b).2.2.2.1.2.1 ≤ 9223372036854775807
  gyro : (F.norm false (takeW F c t b).2.1.2.2).2 = false
  tells : Tells F (goW F (setDri (takeW F c t b).1 (driftW F (takeW F c t b).1.2.2.2.2.2.2.1 (takeW F c t b).2)) (takeW F c t b).2 t).1
section
variable {F D : Fs}
theorem takeD_same (S : Same F D) (c : Cra) (t : Int) (b : ByteArray) : takeD D c t b = takeD F c t b := by
  have e : hearD D t = hearD F t := by
    funext s f
    unfold hearD senD
    rw [S.read, S.fresh]
    by_cases h : f.1 = 16
    · rw [S.oread f h]
    · simp only [h, if_false]
  unfold takeD
  rw [e]
theorem e5_rel (S : Same F D) (N : NextOk F) {c : Cra} {t : Int} {b : ByteArray} (H : Fit F c t b) (hr : F.right t = true) (hl : c.1 = true → c.2.1 < t) :
    e5 D (takeD D c t b).1 t c.2.1 c.1 (takeD D c t b).2 = goW F (setDri (takeW F c t b).1 (driftW F (takeW F c t b).1.2.2.2.2.2.2.1 (takeW F c t b).2)) (takeW F c t b).2 t := by
  rw [takeD_same S]
  obtain ⟨h1, R⟩ := take_rel F H.kind c t b
  have k1 := H.keepOn
  have k2 := H.keepTick
  have hd := H.drift
  have hm := H.mag
  have hg := H.gyro
  have hw := H.tells
  have tick := H.tick
  generalize takeD F c t b = y at h1 R ⊢
  generalize takeW F c t b = x at h1 R k1 k2 hd hm hg hw ⊢
  obtain ⟨c1, x⟩ := x
  obtain ⟨c2, y⟩ := y
  dsimp only at h1 R k1 k2 hd hm hg hw ⊢
  subst h1
  rw [← k1, ← k2] at hl
  rw [← k2] at tick
  rw [← k1, ← k2]
  unfold e5
  unfold driftW at hw ⊢
  rw [R.t3]
  cases e : !decide (x.2.2.1.1 = 0)
  · rw [e] at hw
    exact e8_rel S N c1 t R tick (H.right hr) hl hg hw
  · rw [e] at hw
    unfold r3D
    rw [R.r3, S.bstep _ _ _ hd hm]
    exact e8_rel S N (setDri c1 (F.bstep false (c1.2.2.2.2.2.2.1, x.2.2.1.2.2, x.2.2.1.2.1)).1) t R tick (H.right hr) hl hg hw
/-- A step of the code and one of the document are the same. -/
theorem step_rel (S : Same F D) (N : NextOk F) {c : Cra} {t : Int} {b : ByteArray} (H : Fit F c t b) : stepD D c t (takeD D c t b) = stepW F (fun _ => takeW F c t b) c t b := by
  unfold stepD stepW stepR
  rw [S.right]
  cases hr : F.right t
  · rfl
  · cases h1 : c.1
    · have k := e5_rel S N H hr (fun h => by rw [h1] at h; cases h)
      rw [h1] at k
      exact k
    · by_cases h2 : t ≤ c.2.1
      · rw [decide_eq_true h2]
        simp only [Bool.not_true, Bool.false_eq_true, if_false, if_true, h2]
      · rw [decide_eq_false h2]
        have k := e5_rel S N H hr (fun _ => by omega)
        rw [h1] at k
        simp only [Bool.not_true, Bool.false_eq_true, if_false, if_true, h2]
        exact k
end
end Go.Proofs.YtoadcnhcfodkgaaGreatDoor
