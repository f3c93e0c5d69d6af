/-
  The code's step is the document's, for the seat YtoadcnhcfodkgaaGreatDoor. No Go text in sight.
-/
import Derived.Test.YtoadcnhcfodkgaaGreatDoorDsK
namespace Go.Proofs.YtoadcnhcfodkgaaGreatDoor
open Go.RowKit

section
variable {F D : Fs}
theorem stand_known {x : Hea} {y : Sky} (h : standW F x y = true) : y.1 = true := by
  unfold standW at h
  cases e : y.1
  · rw [e] at h
    cases h
  · rfl
/-- Behind what is decided. -/
theorem go_rel (S : Same F D) (N : NextOk F) (c : Cra) (t ms : Int) {x : Hea} {xd : HeD} (R : HR x xd) {kn : Bool} {p : Tup 3} {sd : Tup 6} (Y : SkyIs (skyW F c t) kn p sd) (hms : goesW c t = true → ms = IntKind.i64.wrap (t - c.2.1))
    (hw : Tells F (goW F c x t).1) : eG D c t ms xd sd (dirsW x) (decW F c t x (skyW F c t)) = goW F c x t := by
  have hY : (decW F c t x (skyW F c t)).2.2.2.1 = true → sd = (skyW F c t).2.2 := by
    intro h
    rw [decW_is] at h
    have k := stand_known (F := F) (show standW F x (skyW F c t) = true from h)
    exact (Y.at_ (Y.known.trans k)).2
  have hg : (decW F c t x (skyW F c t)).1 = !goesW c t := by rw [decW_is]; rfl
  unfold goW at hw ⊢
  unfold eG e37
  generalize hy : skyW F c t = y at hY hg hw ⊢
  generalize decW F c t x y = e at hY hg hw ⊢
  by_cases h2 : c.2.2.2.1.1 = 2
  · rw [if_pos h2]
    rw [decide_eq_true h2] at hw ⊢
    cases h3 : e.1
    · rw [h3] at hw hg
      have hms := hms (by cases h : goesW c t; (rw [h] at hg; cases hg); rfl)
      subst hms
      unfold r1D
      rw [R.r1]
      simp only [Bool.not_false, if_true] at hw ⊢
      unfold filW at hw ⊢
      cases h4 : e.2.1
      · rw [h4] at hw
        exact fil_rel S N c e x y t sd _ _ h2 h3 hY (S.move.flag _) (fun h => S.move.val _ h) hw
      · rw [h4] at hw
        exact fil_rel S N c e x y t sd _ _ h2 h3 hY (S.move.flag _) (fun h => S.move.val _ h) hw
    · rw [h3] at hw
      exact end_rel S c e x y t sd (fun h1 h => absurd h2 h) hw
  · rw [if_neg h2]
    rw [decide_eq_false h2] at hw ⊢
    exact end_rel S c e x y t sd (fun h1 h => hY (N.pair _ _ h1 h)) hw
theorem bod_is {x : Hea} {xd : HeD} (R : HR x xd) : bodD xd = dirsW x := by
  unfold bodD dirsW
  rw [R.r2, R.r3]
/-- From the loop on. -/
theorem e17_rel (S : Same F D) (N : NextOk F) (c : Cra) (t : Int) {x : Hea} {xd : HeD} (R : HR x xd) {kn : Bool} {p : Tup 3} {sd : Tup 6} (Y : SkyIs (skyW F c t) kn p sd) (hc : 0 ≤ c.2.1 ∧ c.2.1 ≤ 4611686018427387904) (ht : 0 ≤ t ∧ t ≤ 4611686018427387904) (hl : c.1 = true → c.2.1 < t)
    (hn : (F.norm false x.1.2.2).2 = false) (hw : Tells F (goW F c x t).1) : e17 D c t c.2.1 c.1 kn xd p sd (bodD xd) = goW F c x t := by
  unfold e17
  rw [lpD_is hc ht c.1 (see0 xd) 9991 (by omega), bod_is R]
  have es : see0 xd = sT true (!decide (x.1.1 = 0)) false false false x.2.2.2 := by
    unfold see0 sT
    rw [R.t1, R.o]
  have gw : goesW c t = decide (c.1 = true ∧ 10 ≤ t - c.2.1 ∧ t - c.2.1 < 10 + ((9991 : Nat) : Int)) := by
    unfold goesW
    dsimp only
    cases h1 : c.1
    · simp
    · have hl := hl h1
      have e : IntKind.u64.wrap (IntKind.u64.wrap t - IntKind.u64.wrap c.2.1) = t - c.2.1 := by
        simp only [IntKind.wrap_u64]
        omega
      rw [e, if_pos rfl]
      by_cases h2 : 10 ≤ t - c.2.1
      · rw [if_pos h2]
        by_cases h3 : t - c.2.1 ≤ 10000
        · rw [decide_eq_true h3]; exact (decide_eq_true ⟨rfl, h2, by omega⟩).symm
        · rw [decide_eq_false h3]; exact (decide_eq_false (fun h => by omega)).symm
      · rw [if_neg h2]; exact (decide_eq_false (fun h => h2 h.2.1)).symm
  rw [es]
  by_cases h : c.1 = true ∧ 10 ≤ t - c.2.1 ∧ t - c.2.1 < 10 + ((9991 : Nat) : Int)
  · rw [if_pos h]
    rw [decide_eq_true h] at gw
    change e27 D c t (t - c.2.1) kn xd p sd (dirsW x) (sT false (!decide (x.1.1 = 0)) false false false x.2.2.2) = _
    rw [dec_rel S R hn Y]
    have k := go_rel S N c t (t - c.2.1) R Y (fun _ => (wrap_inD (by omega)).symm) hw
    rw [decW_is, gw] at k
    exact k
  · rw [if_neg h]
    rw [decide_eq_false h] at gw
    change e27 D c t 0 kn xd p sd (dirsW x) (sT true (!decide (x.1.1 = 0)) false false false x.2.2.2) = _
    rw [dec_rel S R hn Y]
    have k := go_rel S N c t 0 R Y (fun h => by rw [gw] at h; cases h) hw
    rw [decW_is, gw] at k
    exact k
theorem e8_rel (S : Same F D) (N : NextOk F) (c : Cra) (t : Int) {x : Hea} {xd : HeD} (R : HR x xd) (hc : 0 ≤ c.2.1 ∧ c.2.1 ≤ 4611686018427387904) (ht : 0 ≤ t ∧ t ≤ 4611686018427387904) (hl : c.1 = true → c.2.1 < t)
    (hn : (F.norm false x.1.2.2).2 = false) (hw : Tells F (goW F c x t).1) : e8 D c t c.2.1 c.1 xd = goW F c x t := by
  unfold e8
  cases h : c.2.2.2.2.1
  · exact e17_rel S N c t R ⟨by unfold skyW; rw [h]; rfl, fun h => by cases h⟩ hc ht hl hn hw
  · exact e17_rel S N c t R (sky_rel S c t h) hc ht hl hn hw
end
end Go.Proofs.YtoadcnhcfodkgaaGreatDoor
