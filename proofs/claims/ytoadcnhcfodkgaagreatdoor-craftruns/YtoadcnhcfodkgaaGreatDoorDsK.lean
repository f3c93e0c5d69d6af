/-
  The code's step and the document's: what is decided, for the seat YtoadcnhcfodkgaaGreatDoor. No Go text in sight.
-/
import Derived.Test.YtoadcnhcfodkgaaGreatDoorDsJ
namespace Go.Proofs.YtoadcnhcfodkgaaGreatDoor
open Go.RowKit

def sT (g gy sl pa li : Bool) (o : Int) : SeD := (g, gy, sl, pa, li, false, false, o)
/-- What is known of the sky. -/
structure SkyIs (y : Sky) (kn : Bool) (p : Tup 3) (sd : Tup 6) : Prop where
  known : kn = y.1
  at_ : kn = true → p = y.2.1 ∧ sd = y.2.2
section
variable {F D : Fs}
def slowW (F : Fs) (x : Hea) : Bool := if !decide (x.1.1 = 0) then decide ((F.norm false x.1.2.2).1 ≤ 54975581388) else false
def litW (F : Fs) (y : Sky) : Bool := if y.1 then !(F.shaded false (y.2.1, fstT y.2.2)).1 else false
theorem decW_is (c : Cra) (t : Int) (x : Hea) (y : Sky) : decW F c t x y = sT (!goesW c t) (!decide (x.1.1 = 0)) (slowW F x) (standW F x y) (litW F y) x.2.2.2 := by
  unfold decW slowW litW sT
  cases !decide (x.1.1 = 0) <;> cases y.1 <;> rfl
theorem e35_rel (S : Same F D) {c : Cra} {t ms : Int} {xd : HeD} {y : Sky} {kn : Bool} {p : Tup 3} {sd b : Tup 6} (Y : SkyIs y kn p sd) {g gy sl pa : Bool} {o : Int} :
    e35 D c t ms kn xd p sd b (sT g gy sl pa false o) = eG D c t ms xd sd b (sT g gy sl pa (litW F y) o) := by
  obtain ⟨k, a⟩ := Y
  unfold e35 litW
  rw [← k, S.shaded]
  cases kn
  · rfl
  · obtain ⟨rfl, rfl⟩ := a rfl
    rfl
theorem eP_rel (S : Same F D) {c : Cra} {t ms : Int} {x : Hea} {xd : HeD} (R : HR x xd) {y : Sky} {kn : Bool} {p : Tup 3} {sd : Tup 6} (Y : SkyIs y kn p sd) {g gy sl : Bool} {o : Int} :
    eP D c t ms kn xd p sd (dirsW x) (sT g gy sl false false o) = e35 D c t ms kn xd p sd (dirsW x) (sT g gy sl (standW F x y) false o) := by
  obtain ⟨k, a⟩ := Y
  unfold eP e30 standW
  rw [R.t2, R.t3, S.apart, ← k]
  cases kn
  · rfl
  · obtain ⟨rfl, rfl⟩ := a rfl
    cases !decide (x.2.1.1 = 0)
    · rfl
    · cases !decide (x.2.2.1.1 = 0)
      · rfl
      · cases (F.apart false (fstT y.2.2, sndT y.2.2)).1 <;> rfl
theorem e27_rel (S : Same F D) {c : Cra} {t ms : Int} {x : Hea} {xd : HeD} (R : HR x xd) (hn : (F.norm false x.1.2.2).2 = false) {kn : Bool} {p : Tup 3} {sd : Tup 6} {g : Bool} {o : Int} :
    e27 D c t ms kn xd p sd (dirsW x) (sT g (!decide (x.1.1 = 0)) false false false o) = eP D c t ms kn xd p sd (dirsW x) (sT g (!decide (x.1.1 = 0)) (slowW F x) false false o) := by
  unfold e27 slowW r1D
  rw [R.r1, S.norm.flag, S.norm.val _ hn, hn]
  cases e : !decide (x.1.1 = 0)
  · rfl
  · by_cases h : (F.norm false x.1.2.2).1 ≤ 54975581388
    · simp only [h, decide_true, if_true]
      rfl
    · simp only [h, decide_false, if_false]
      rfl
theorem dec_rel (S : Same F D) {c : Cra} {t ms : Int} {x : Hea} {xd : HeD} (R : HR x xd) (hn : (F.norm false x.1.2.2).2 = false) {y : Sky} {kn : Bool} {p : Tup 3} {sd : Tup 6} (Y : SkyIs y kn p sd) {g : Bool} {o : Int} :
    e27 D c t ms kn xd p sd (dirsW x) (sT g (!decide (x.1.1 = 0)) false false false o) = eG D c t ms xd sd (dirsW x) (sT g (!decide (x.1.1 = 0)) (slowW F x) (standW F x y) (litW F y) o) := by
  rw [e27_rel S R hn, eP_rel S R Y, e35_rel S Y]
/-- Where the craft is. -/
theorem sky_rel (S : Same F D) (c : Cra) (t : Int) (hp : c.2.2.2.2.1 = true) : SkyIs (skyW F c t) (skyR D c t).1 (skyR D c t).2.1 (skyR D c t).2.2 := by
  unfold skyR skyW
  rw [hp]
  have f1 := S.place.flag (c.2.2.2.2.2.1, t)
  have v1 := S.place.val (c.2.2.2.2.2.1, t)
  generalize F.place false (c.2.2.2.2.2.1, t) = a at f1 v1 ⊢
  generalize D.place false (c.2.2.2.2.2.1, t) = a' at f1 v1 ⊢
  obtain ⟨a, fa⟩ := a
  obtain ⟨a', fa'⟩ := a'
  dsimp only at f1 v1 ⊢
  subst f1
  cases fa'
  · have v1 := v1 rfl
    subst v1
    have f2 := S.dir.flag t
    have v2 := S.dir.val t
    generalize F.dir false t = d at f2 v2 ⊢
    generalize D.dir false t = d' at f2 v2 ⊢
    obtain ⟨d, fd⟩ := d
    obtain ⟨d', fd'⟩ := d'
    dsimp only at f2 v2 ⊢
    subst f2
    cases fd'
    · have v2 := v2 rfl
      subst v2
      have f3 := S.sky.flag (a', t)
      have v3 := S.sky.val (a', t)
      generalize F.sky false (a', t) = s at f3 v3 ⊢
      generalize D.sky false (a', t) = s' at f3 v3 ⊢
      obtain ⟨s, fs⟩ := s
      obtain ⟨s', fs'⟩ := s'
      dsimp only at f3 v3 ⊢
      subst f3
      cases fs'
      · have v3 := v3 rfl
        subst v3
        exact ⟨rfl, fun _ => ⟨rfl, rfl⟩⟩
      · exact ⟨rfl, fun h => by cases h⟩
    · have b := S.sky.bad (a', t)
      rw [b.1, b.2]
      exact ⟨rfl, fun h => by cases h⟩
  · have b := (S.dir.bad t)
    rw [b.1, b.2]
    have b1 := (S.sky.bad (a, t)).1
    have b2 := (S.sky.bad (a', t)).2
    rw [b1, b2]
    exact ⟨rfl, fun h => by cases h⟩
end
end Go.Proofs.YtoadcnhcfodkgaaGreatDoor
