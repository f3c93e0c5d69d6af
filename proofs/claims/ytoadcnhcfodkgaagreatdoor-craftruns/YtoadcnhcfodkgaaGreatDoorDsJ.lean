/-
  The code's step and the document's: the filter, for the seat YtoadcnhcfodkgaaGreatDoor. No Go text in sight.
-/
import Derived.Test.YtoadcnhcfodkgaaGreatDoorDsI
namespace Go.Proofs.YtoadcnhcfodkgaaGreatDoor
open Go.RowKit

/-- What is wanted of mode.Next. -/
structure NextOk (F : Fs) : Prop where
  bad : ∀ (p : Tup 6) (s : See) (b : Bool), p.1 = 2 → s.1 = false → s.2.2.2.2.2.1 = true → F.next (p, setPass s b) = F.next (p, s) ∧ (F.next (p, s)).1 ≠ 2
  pair : ∀ (p : Tup 6) (s : See), (F.next (p, s)).1 = 2 → p.1 ≠ 2 → s.2.2.2.1 = true
section
variable {F D : Fs}
theorem bad_rel (S : Same F D) (N : NextOk F) (c : Cra) (g1 g2 : Tup 43) (s : See) (b : Bool) (x : Hea) (y : Sky) (t : Int) (sd : Tup 6) (hm : c.2.2.2.1.1 = 2) (hg : s.1 = false) (hb : s.2.2.2.2.2.1 = true)
    (hw : Tells F (setEnd (setGue c g1) t (planW F (setGue c g1) s x y).1 (planW F (setGue c g1) s x y).2)) : e50 D (setGue c g2) t sd (dirsW x) (setPass s b) = endW F (setGue c g1) s x y t := by
  obtain ⟨e1, e2⟩ := N.bad c.2.2.2.1 s b hm hg hb
  unfold endW e50 e51
  unfold planW at hw ⊢
  rw [S.next]
  change (if (F.next (c.2.2.2.1, setPass s b)).1 = 2 then _ else e58 D (setPlan (setGue c g2) (F.next (c.2.2.2.1, setPass s b))) t) = _
  rw [e1, if_neg e2]
  rw [show (!decide ((F.next ((setGue c g1).2.2.2.1, s)).1 = 2)) = true by rw [decide_eq_false (show ¬ (F.next ((setGue c g1).2.2.2.1, s)).1 = 2 from e2)]; rfl] at hw ⊢
  exact e58_no S (setPlan (setGue c g2) (F.next (c.2.2.2.1, s))) t e2 hw
theorem spr_rel (S : Same F D) (N : NextOk F) (c : Cra) (e : See) (x : Hea) (y : Sky) (t : Int) (sd : Tup 6) (gD gF : Tup 43) (fl pD pF : Bool) (hm : c.2.2.2.1.1 = 2) (hg : e.1 = false) (h : fl = false → gD = gF ∧ pD = pF)
    (hw : Tells F (endW F (setGue c (filE F e gF fl pF).1) (filE F e gF fl pF).2 x y t).1) : eSpr D c t sd (dirsW x) (setPass e pD) gD fl = endW F (setGue c (filE F e gF fl pF).1) (filE F e gF fl pF).2 x y t := by
  unfold eSpr
  cases fl
  · obtain ⟨rfl, rfl⟩ := h rfl
    rw [S.spread.flag]
    unfold filE at hw ⊢
    cases e1 : (F.spread false gD).2
    · rw [e1] at hw
      rw [S.spread.val _ e1]
      exact end_rel S (setGue c gD) _ x y t sd (fun _ h => absurd hm h) hw
    · rw [e1] at hw
      exact end_rel S (setGue c gD) _ x y t sd (fun _ h => absurd hm h) hw
  · rw [(S.spread.bad gD).2]
    unfold filE at hw ⊢
    rw [(S.spread.bad gF).1] at hw ⊢
    exact bad_rel S N c gF gD (setBad (setPass e pF) true) pD x y t sd hm hg rfl hw
theorem fil_rel (S : Same F D) (N : NextOk F) (c : Cra) (e : See) (x : Hea) (y : Sky) (t : Int) (sd : Tup 6) (rD rF : Tup 43 × Bool) (hm : c.2.2.2.1.1 = 2) (hg : e.1 = false) (hs : e.2.2.2.1 = true → sd = y.2.2) (hf : rD.2 = rF.2) (hv : rF.2 = false → rD.1 = rF.1)
    (hw : Tells F (endW F (setGue c (filR F e x y rF).1) (filR F e x y rF).2 x y t).1) : eFil D c t sd (dirsW x) e rD = endW F (setGue c (filR F e x y rF).1) (filR F e x y rF).2 x y t := by
  obtain ⟨gD, fD⟩ := rD
  obtain ⟨gF, fl⟩ := rF
  dsimp only at hf hv
  subst hf
  unfold eFil
  unfold filR at hw ⊢
  dsimp only at hw ⊢
  cases e1 : e.2.2.2.1
  · rw [e1] at hw
    exact spr_rel S N c e x y t sd gD gF fD e.2.2.2.2.2.2.1 _ hm hg (fun h => ⟨hv h, rfl⟩) hw
  · rw [e1] at hw
    cases e2 : e.2.2.2.2.1
    · rw [e2] at hw
      exact spr_rel S N c e x y t sd gD gF fD e.2.2.2.2.2.2.1 _ hm hg (fun h => ⟨hv h, rfl⟩) hw
    · rw [e2] at hw
      have hsd := hs e1
      subst hsd
      cases fD
      · have hv := hv rfl
        subst hv
        have k := S.meet.flag (gD, y.2.2, dirsW x)
        have kv := S.meet.val (gD, y.2.2, dirsW x)
        simp only [if_true]
        rw [k]
        exact spr_rel S N c e x y t y.2.2 _ _ _ _ _ hm hg (fun h => by rw [kv h]; exact ⟨rfl, rfl⟩) hw
      · have k1 := (S.meet.bad (gD, y.2.2, dirsW x)).2
        have k2 := (S.meet.bad (gF, y.2.2, dirsW x)).1
        simp only [if_true] at hw ⊢
        rw [k2] at hw ⊢
        rw [k1]
        exact spr_rel S N c e x y t y.2.2 _ _ true _ _ hm hg (fun h => by cases h) hw
end
end Go.Proofs.YtoadcnhcfodkgaaGreatDoor
