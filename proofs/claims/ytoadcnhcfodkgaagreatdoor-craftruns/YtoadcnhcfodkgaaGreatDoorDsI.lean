/-
  The code's step and the document's: their ends, for the seat YtoadcnhcfodkgaaGreatDoor. No Go text in sight.
-/
import Derived.Test.YtoadcnhcfodkgaaGreatDoorDsH
namespace Go.Proofs.YtoadcnhcfodkgaaGreatDoor
open Go.RowKit

/-- Two that answer the same where the flow stays good, and the same of the flow. -/
structure Ag {A R : Type} (f g : Bool → A → R × Bool) : Prop where
  bad : ∀ x, (f true x).2 = true ∧ (g true x).2 = true
  flag : ∀ x, (g false x).2 = (f false x).2
  val : ∀ x, (f false x).2 = false → (g false x).1 = (f false x).1
/-- What the document's lower functions answer is what the code's do. -/
structure Same (F D : Fs) : Prop where
  right : D.right = F.right
  place : Ag F.place D.place
  dir : Ag F.dir D.dir
  sky : Ag F.sky D.sky
  norm : Ag F.norm D.norm
  apart : D.apart = F.apart
  shaded : D.shaded = F.shaded
  move : Ag F.move D.move
  meet : Ag F.meet D.meet
  spread : Ag F.spread D.spread
  att : Ag F.att D.att
  start : D.start = F.start
  bstep : ∀ (d : Dri) (v : Tup 3) (k : Int), -9223372036854775808 ≤ d.2.1 ∧ d.2.1 ≤ 9223372036854775807 → -9223372036854775808 ≤ k ∧ k ≤ 9223372036854775807 → (D.bstep false (d, v, k)).1 = (F.bstep false (d, v, k)).1
  dip : ∀ d, (D.dip false d).1 = (F.dip false d).1
  next : D.next = F.next
  counts : D.counts = F.counts
  write : D.write = F.write
  wrap : D.wrap = F.wrap
  read : D.read = F.read
  fresh : D.fresh = F.fresh
  oread : ∀ f : Fra, f.1 = 16 → D.oread f = F.oread f
/-- What is told is written. -/
def Tells (F : Fs) (c : Cra) : Prop := (F.write (telT c (F.counts (q4T c.2.2.2.2.2.2.2.1, coilW F c)))).2 = true
section
variable {F D : Fs}
theorem e60_is (S : Same F D) (c : Cra) (t : Int) (hw : Tells F (setTick c t)) : e60 D c t = (setTick c t, toldW F (setTick c t)) := by
  have e : toldW F (setTick c t) = toldD D (setTick c t) (coilW F (setTick c t)) := by
    unfold toldW toldD
    rw [S.write, S.wrap, S.counts, show (F.write (telT (setTick c t) (F.counts (q4T (setTick c t).2.2.2.2.2.2.2.1, coilW F (setTick c t))))).2 = true from hw]
    rfl
  rw [e]
  unfold e60 coilW
  rw [S.dip]
  by_cases h : c.2.2.2.1.1 = 0
  · rw [if_pos h, show (!decide ((setTick c t).2.2.2.1.1 = 0)) = false by rw [show (setTick c t).2.2.2.1.1 = c.2.2.2.1.1 from rfl, decide_eq_true h]; rfl]
    rfl
  · rw [if_neg h, show (!decide ((setTick c t).2.2.2.1.1 = 0)) = true by rw [show (setTick c t).2.2.2.1.1 = c.2.2.2.1.1 from rfl, decide_eq_false h]; rfl]
    rfl
theorem e58_yes (S : Same F D) (c : Cra) (t : Int) (h : c.2.2.2.1.1 = 2) (hw : Tells F (setTick (setOn c) t)) : e58 D c t = (setTick (setOn c) t, toldW F (setTick (setOn c) t)) := by
  unfold e58
  rw [decide_eq_true h]
  exact e60_is S _ t hw
theorem e58_no (S : Same F D) (c : Cra) (t : Int) (h : c.2.2.2.1.1 ≠ 2) (hw : Tells F (setTick (setOn (setGue c zeroG)) t)) : e58 D c t = (setTick (setOn (setGue c zeroG)) t, toldW F (setTick (setOn (setGue c zeroG)) t)) := by
  unfold e58
  rw [decide_eq_false h]
  exact e60_is S _ t hw
/-- The ends of both steps. -/
theorem end_rel (S : Same F D) (c : Cra) (s : See) (x : Hea) (y : Sky) (t : Int) (sd : Tup 6) (hs : (F.next (c.2.2.2.1, s)).1 = 2 → c.2.2.2.1.1 ≠ 2 → sd = y.2.2)
    (hw : Tells F (setEnd c t (planW F c s x y).1 (planW F c s x y).2)) : e50 D c t sd (dirsW x) s = endW F c s x y t := by
  unfold endW e50 e51
  unfold planW at hw ⊢
  rw [S.next]
  generalize hn : F.next (c.2.2.2.1, s) = n at hs hw ⊢
  by_cases h1 : n.1 = 2
  · rw [if_pos (show (setPlan c n).2.2.2.1.1 = 2 from h1)]
    rw [decide_eq_true h1] at hw ⊢
    by_cases h2 : c.2.2.2.1.1 = 2
    · rw [decide_eq_true h2] at hw ⊢
      exact e58_yes S (setPlan c n) t h1 hw
    · rw [decide_eq_false h2] at hw ⊢
      rw [hs h1 h2]
      have hf := S.att.flag (y.2.2, dirsW x)
      have hv := S.att.val (y.2.2, dirsW x)
      change Tells F (setEnd c t (entW F n y.2.2 (dirsW x)).1 (entW F n y.2.2 (dirsW x)).2) at hw
      change e54 D (setPlan c n) t (D.att false (y.2.2, dirsW x)) = (setEnd c t (entW F n y.2.2 (dirsW x)).1 (entW F n y.2.2 (dirsW x)).2, toldW F (setEnd c t (entW F n y.2.2 (dirsW x)).1 (entW F n y.2.2 (dirsW x)).2))
      unfold entW at hw ⊢
      unfold e54
      rw [hf, S.start]
      cases e : (F.att false (y.2.2, dirsW x)).2
      · rw [e] at hw
        rw [hv e]
        exact e58_yes S (setGue (setPlan c n) (F.start (F.att false (y.2.2, dirsW x)).1)) t h1 hw
      · rw [e] at hw
        exact e58_no S (setPlan (setGue (setPlan c n) (F.start (D.att false (y.2.2, dirsW x)).1)) (1, 0, 0, 0, 0, or4W n.2.2.2.2.2.1, ())) t (by show (1 : Int) ≠ 2; decide) hw
  · rw [if_neg (show ¬ (setPlan c n).2.2.2.1.1 = 2 from h1)]
    rw [decide_eq_false h1] at hw ⊢
    exact e58_no S (setPlan c n) t h1 hw
end
end Go.Proofs.YtoadcnhcfodkgaaGreatDoor
