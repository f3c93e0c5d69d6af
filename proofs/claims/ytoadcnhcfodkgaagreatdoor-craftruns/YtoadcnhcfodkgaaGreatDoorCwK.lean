/-
  A step of a craft, as far as plans and what is told are concerned, for the seat YtoadcnhcfodkgaaGreatDoor.
-/
import Derived.Test.YtoadcnhcfodkgaaGreatDoorCwJ
namespace Go.Proofs.YtoadcnhcfodkgaaGreatDoor
open Go.RowKit

theorem filE_keeps (F : Fs) (s : See) (g : Tup 43) (b pass : Bool) : (filE F s g b pass).2.1 = s.1 ∧ (filE F s g b pass).2.2.2.2.2.2.2.2 = s.2.2.2.2.2.2.2 := by
  unfold filE
  split
  · exact ⟨rfl, rfl⟩
  · exact ⟨rfl, rfl⟩
theorem filR_keeps (F : Fs) (s : See) (x : Hea) (y : Sky) (r : Tup 43 × Bool) : (filR F s x y r).2.1 = s.1 ∧ (filR F s x y r).2.2.2.2.2.2.2.2 = s.2.2.2.2.2.2.2 := by
  unfold filR
  split
  · split
    · exact filE_keeps ..
    · exact filE_keeps ..
  · exact filE_keeps ..
theorem filW_keeps (F : Fs) (g : Tup 43) (s : See) (ms : Int) (x : Hea) (y : Sky) : (filW F g s ms x y).2.1 = s.1 ∧ (filW F g s ms x y).2.2.2.2.2.2.2.2 = s.2.2.2.2.2.2.2 := by
  unfold filW
  split
  · exact filR_keeps ..
  · exact filR_keeps ..
theorem decW_keeps (F : Fs) (c : Cra) (t : Int) (x : Hea) (y : Sky) : (decW F c t x y).1 = !goesW c t ∧ (decW F c t x y).2.2.2.2.2.2.2 = x.2.2.2 := by
  unfold decW
  split
  · split
    · exact ⟨rfl, rfl⟩
    · exact ⟨rfl, rfl⟩
  · split
    · exact ⟨rfl, rfl⟩
    · exact ⟨rfl, rfl⟩
theorem goW_is (F : Fs) (c : Cra) (x : Hea) (t : Int) : ∃ g s, goW F c x t = endW F (setGue c g) s x (skyW F c t) t ∧ s.1 = !goesW c t ∧ s.2.2.2.2.2.2.2 = x.2.2.2 := by
  have hd := decW_keeps F c t x (skyW F c t)
  unfold goW
  split
  · split
    · have hf := filW_keeps F c.2.2.2.2.2.2.2.1 (decW F c t x (skyW F c t)) (IntKind.i64.wrap (t - c.2.1)) x (skyW F c t)
      exact ⟨_, _, rfl, hf.1.trans hd.1, hf.2.trans hd.2⟩
    · exact ⟨cGues c, _, rfl, hd.1, hd.2⟩
  · exact ⟨cGues c, _, rfl, hd.1, hd.2⟩
theorem entW_is (F : Fs) (p a b : Tup 6) : (entW F p a b).1 = p ∨ (entW F p a b).1 = (1, 0, 0, 0, 0, or4W p.2.2.2.2.2.1, ()) := by
  unfold entW
  split
  · exact .inr rfl
  · exact .inl rfl
/-- The plan behind a step. -/
theorem plan_is {F : Fs} (hF : FsIs F) (c : Cra) (s : See) (x : Hea) (y : Sky) :
    (planW F c s x y).1 = nextT (cPlan c, s) ∨ ((nextT (cPlan c, s)).1 = 2 ∧ (cPlan c).1 ≠ 2 ∧ (planW F c s x y).1 = (1, 0, 0, 0, 0, or4W (nextT (cPlan c, s)).2.2.2.2.2.1, ())) := by
  unfold planW
  rw [hF.next]
  split
  · exact .inl rfl
  rename_i h2
  split
  · exact .inl rfl
  rename_i h3
  rcases entW_is F (nextT (cPlan c, s)) y.2.2 (dirsW x) with e | e
  · exact .inl e
  · refine .inr ⟨?_, ?_, e⟩
    · simpa using h2
    · simpa using h3
theorem plOf_T (p : Pl) : plOf (plT p) = p := rfl
theorem or4_is (f : Int) : or4W f = bits .or .i64 f 4 := rfl
theorem plan_in {F : Fs} (hF : FsIs F) {c : Cra} (h : PlI (plOf (cPlan c))) (s : See) (x : Hea) (y : Sky) : PlI (plOf (planW F c s x y).1) := by
  have hn : PlI (plOf (nextT (cPlan c, s))) := h.step (snOf s)
  rcases plan_is hF c s x y with e | ⟨_, _, e⟩
  · rw [e]
    exact hn
  · rw [e]
    exact hn.fail 4 (by decide)
/-! ### What is told -/
theorem tcS_in (r : Int × Bool) : inR (tcS r).1 (-32768) 32767 = true := by
  unfold tcS
  split
  · assumption
  · rfl
theorem tlC_in (q : Int × Int × Int × Int) (m : V3) : inR (tlC q m).1.1 (-32768) 32767 = true ∧ inR (tlC q m).1.2.1 (-32768) 32767 = true ∧ inR (tlC q m).1.2.2.1 (-32768) 32767 = true ∧ inR (tlC q m).1.2.2.2 (-32768) 32767 = true ∧ inR (tlC q m).2.1 (-32768) 32767 = true ∧ inR (tlC q m).2.2.1 (-32768) 32767 = true ∧ inR (tlC q m).2.2.2 (-32768) 32767 = true := by
  unfold tlC
  dsimp only
  split
  · exact ⟨rfl, rfl, rfl, rfl, rfl, rfl, rfl⟩
  · exact ⟨tcS_in _, tcS_in _, tcS_in _, tcS_in _, tcS_in _, tcS_in _, tcS_in _⟩
/-- A craft that may tell. -/
structure CInv (c : Cra) : Prop where
  t : cRight c.2.1 = true
  p : PlI (plOf (cPlan c))
  off : c.1 = false → (cPlan c).1 = 0
  ak : AkI (cAcks c)
theorem CInv.zero : CInv zeroCra := ⟨rfl, ⟨i64_0, i64_0, i64_0, i64_0, Int.le_refl 0, show (0 : Int) ≤ 3 by decide, Int.le_refl 0, show (0 : Int) ≤ 15 by decide⟩, fun _ => rfl, ⟨Int.le_refl 0, show (0 : Int) ≤ 255 by decide, Int.le_refl 0, show (0 : Int) ≤ 255 by decide, Int.le_refl 0, show (0 : Int) ≤ 65535 by decide⟩⟩
/-- What a craft tells. -/
def telF (F : Fs) (c : Cra) : Tel := telT c (countsT (q4T (cGues c), coilW F c))
theorem tel_ok (F : Fs) {c : Cra} (h : CInv c) : tlOk (tlOf (telF F c)) = true := by
  obtain ⟨h1, h2, h3, h4, h5, h6, h7⟩ := tlC_in ((q4T (cGues c)).1, (q4T (cGues c)).2.1, (q4T (cGues c)).2.2.1, (q4T (cGues c)).2.2.2.1) ((coilW F c).1, (coilW F c).2.1, (coilW F c).2.2.1)
  have a := h.t
  have b : inR (cPlan c).1 0 3 = true := inR_iff.2 ⟨h.p.m0, h.p.m3⟩
  have d : inR (cPlan c).2.2.2.2.2.1 0 15 = true := inR_iff.2 ⟨h.p.f0, h.p.f9⟩
  have e : inR (cAcks c).1 0 255 = true := inR_iff.2 ⟨h.ak.a0, h.ak.a1⟩
  have f : inR (cAcks c).2.1 0 255 = true := inR_iff.2 ⟨h.ak.e0, h.ak.e1⟩
  have g : inR (cAcks c).2.2.1 0 65535 = true := inR_iff.2 ⟨h.ak.r0, h.ak.r1⟩
  show (cRight c.2.1 && inR (cPlan c).1 0 3 && inR (cPlan c).2.2.2.2.2.1 0 15 && inR (cAcks c).1 0 255 && inR (cAcks c).2.1 0 255 && inR (cAcks c).2.2.1 0 65535 && _ && _ && _ && _ && _ && _ && _) = true
  rw [a, b, d, e, f, g]
  exact (congrArg (fun z => z && _ && _ && _ && _ && _ && _) h1).trans ((congrArg (fun z => z && _ && _ && _ && _ && _) h2).trans ((congrArg (fun z => z && _ && _ && _ && _) h3).trans ((congrArg (fun z => z && _ && _ && _) h4).trans ((congrArg (fun z => z && _ && _) h5).trans ((congrArg (fun z => z && _) h6).trans h7)))))
/-- The bytes of what is told, but for the first. -/
def tailOf (T : Tl) : List UInt8 := (wrapL 32 (strOf (tlL T)).data.toList).drop 1
def bytesOf (T : Tl) : ByteArray := ⟨⟨165 :: tailOf T⟩⟩
theorem wrapL_tail (k : UInt8) (d : List UInt8) : wrapL k d = 165 :: (wrapL k d).drop 1 := rfl
theorem tlStr_size (T : Tl) : (strOf (tlL T)).size = 26 := rfl
theorem told_is {F : Fs} (hF : FsIs F) {c : Cra} (h : CInv c) : toldW F c = bytesOf (tlOf (telF F c)) := by
  have ok := tel_ok F h
  unfold toldW
  rw [hF.write, hF.counts, hF.wrap]
  show (if (!(writeT (telF F c)).2) = true then noBytes else (wrapT (writeT (telF F c)).1).1) = _
  have e2 : (writeT (telF F c)).2 = true := ok
  have e1 : (writeT (telF F c)).1 = (32, strOf (tlL (tlOf (telF F c)))) := by
    show tlW (tlOf (telF F c)) = _
    unfold tlW
    rw [if_pos ok]
  rw [e2, e1]
  show (wrapT (32, strOf (tlL (tlOf (telF F c))))).1 = _
  unfold wrapT
  rw [if_pos ⟨by dsimp only; decide, by dsimp only; decide, by dsimp only; rw [tlStr_size]; decide⟩]
  rfl
/-! ### A step -/
theorem right_in {t : Int} (h : cRight t = true) : 0 ≤ t ∧ t ≤ 157766400000 := by
  unfold cRight at h
  simpa using h
/-- A step that is taken: from c by tick t and bytes b to d. -/
structure Took (F : Fs) (c : Cra) (t : Int) (b : ByteArray) (d : Cra) : Prop where
  right : cRight t = true
  late : c.1 = true → c.2.1 < t
  inv : CInv d
  tick : d.2.1 = t
  on : d.1 = true
  left : d.2.2.1 = restOf (c.2.2.1 ++ b).data.toList
  plan : ∃ p s, (p = cPlan c ∨ p = clrP (cPlan c)) ∧ (s.1 = !goesW c t) ∧ s.2.2.2.2.2.2.2 = (takeW F c t b).2.2.2.2 ∧ OrdI (takeW F c t b).2 ∧ (cPlan d = nextT (p, s) ∨ ((nextT (p, s)).1 = 2 ∧ p.1 ≠ 2 ∧ cPlan d = (1, 0, 0, 0, 0, or4W (nextT (p, s)).2.2.2.2.2.1, ())))
theorem goesW_same {c d : Cra} (h1 : d.1 = c.1) (h2 : d.2.1 = c.2.1) (t : Int) : goesW d t = goesW c t := by
  unfold goesW
  rw [h1, h2]
/-- A step that isn't taken. -/
def stays (c : Cra) (t : Int) : Bool := !cRight t || (c.1 && decide (t ≤ c.2.1))
theorem stays_yes {F : Fs} (hF : FsIs F) {c : Cra} {t : Int} (h : stays c t = true) (b : ByteArray) : stepF F c t b = (c, noBytes) := by
  unfold stays at h
  unfold stepF stepW
  rw [hF.right]
  cases hr : cRight t
  · rfl
  · rw [hr] at h
    simp only [Bool.not_true, Bool.false_or, Bool.and_eq_true] at h
    simp only [Bool.not_true, Bool.false_eq_true, if_false]
    rw [if_pos h.1, if_pos h.2]
theorem stays_no {F : Fs} (hF : FsIs F) {c : Cra} {t : Int} (h : stays c t = false) (b : ByteArray) : stepF F c t b = stepR F (fun _ => takeW F c t b) c t b ∧ cRight t = true ∧ (c.1 = true → c.2.1 < t) := by
  unfold stays at h
  unfold stepF stepW
  rw [hF.right]
  cases hr : cRight t
  · rw [hr] at h; cases h
  · rw [hr] at h
    simp only [Bool.not_true, Bool.false_or] at h
    simp only [Bool.not_true, Bool.false_eq_true, if_false]
    cases hc : c.1
    · exact ⟨rfl, by trivial, fun h => by cases h⟩
    · rw [hc] at h
      simp only [Bool.true_and] at h
      simp only [if_true]
      rw [h]
      exact ⟨rfl, by trivial, fun _ => by have := of_decide_eq_false h; omega⟩
theorem took_of {F : Fs} (hF : FsIs F) {c : Cra} (hI : CInv c) (t : Int) (b : ByteArray) (hr : cRight t = true) (hl : c.1 = true → c.2.1 < t) :
    Took F c t b (stepR F (fun _ => takeW F c t b) c t b).1 ∧ (stepR F (fun _ => takeW F c t b) c t b).2 = bytesOf (tlOf (telF F (stepR F (fun _ => takeW F c t b) c t b).1)) := by
  obtain ⟨hm, ho⟩ := take_mid hF c hI.ak t b
  unfold stepR
  dsimp only
  have hpO : ∀ x, x = (takeW F c t b).2 → x.2.2.2 = (takeW F c t b).2.2.2.2 ∧ OrdI (takeW F c t b).2 := fun x e => by rw [e]; exact ⟨rfl, ho⟩
  generalize hT : takeW F c t b = T at hm ho ⊢
  obtain ⟨c1, x⟩ := T
  dsimp only at hm ho ⊢
  generalize driftW F c1.2.2.2.2.2.2.1 x = dr
  obtain ⟨g, s, e, hg, hs⟩ := goW_is F (setDri c1 dr) x t
  rw [e]
  generalize skyW F (setDri c1 dr) t = y
  have hp : PlI (plOf (cPlan (setGue (setDri c1 dr) g))) := by
    show PlI (plOf (cPlan c1))
    rcases hm.plan with e | e <;> rw [e]
    · exact hI.p
    · exact ⟨hI.p.c, hI.p.g, hI.p.i, hI.p.l, hI.p.m0, hI.p.m3, Int.le_refl 0, show (0 : Int) ≤ 15 by decide⟩
  have hq := plan_in hF hp s x y
  have hpl := plan_is hF (setGue (setDri c1 dr) g) s x y
  unfold endW
  dsimp only
  generalize planW F (setGue (setDri c1 dr) g) s x y = P at hq hpl ⊢
  have hi : CInv (setEnd (setGue (setDri c1 dr) g) t P.1 P.2) := ⟨hr, hq, fun h => Bool.noConfusion h, hm.ak⟩
  have hpx := hpO x (by rw [hT])
  refine ⟨⟨hr, hl, hi, rfl, rfl, hm.left, cPlan c1, s, hm.plan, ?_, hs.trans hpx.1, hpx.2, hpl⟩, told_is hF hi⟩
  rw [hg]
  exact congrArg _ (goesW_same hm.on hm.tick t)
theorem took {F : Fs} (hF : FsIs F) {c : Cra} (hI : CInv c) {t : Int} (b : ByteArray) (h : stays c t = false) :
    Took F c t b (stepF F c t b).1 ∧ (stepF F c t b).2 = bytesOf (tlOf (telF F (stepF F c t b).1)) := by
  obtain ⟨e, hr, hl⟩ := stays_no hF h b
  rw [e]
  exact took_of hF hI t b hr hl
end Go.Proofs.YtoadcnhcfodkgaaGreatDoor
