/-
  What package orbit's functions answer, as plain steps, for the seat YtoadcnhcfodkgaaGreatDoor. No Go text in sight. (Made by mkorbit.py.)
-/
import Derived.Test.YtoadcnhcfodkgaaGreatDoorCTrue
import Derived.Test.YtoadcnhcfodkgaaGreatDoorOrbF
namespace Go.Proofs.YtoadcnhcfodkgaaGreatDoor
open Go.RowKit

abbrev V7 := Int × Int × Int × Int × Int × Int × Int
/-- One of Newton's steps for Kepler's angle. -/
def kStep (bad : Bool) (m e x : Int) : Int × Bool := let r1 := sinA bad x; let r2 := mulS r1.2 e r1.1; let r3 := subS r2.2 x r2.1; let r4 := subS r3.2 r3.1 m; let r5 := cosA r4.2 x; let r6 := mulS r5.2 e r5.1; let r7 := subS r6.2 1099511627776 r6.1; let r8 := divS r7.2 r4.1 r7.1; subS r8.2 x r8.1
theorem kStep_true (m e x : Int) : kStep true m e x = (0, true) := by simp [kStep, sinA_true, mulS_true, subS_true, cosA_true, divS_true]
def oFarC (a : Int) (k : Int) : Bool := let r1 := mulS false a (1099511627776 - k); let r2 := mulS r1.2 a (1099511627776 + k); if r2.2 then false else if r1.1 ≥ 7232738120604 then (decide (r2.1 ≤ 9211859050600)) else false
def oAngC (a : Int) : Bool := if (-6908435304716) ≤ a then (decide (a ≤ 6908435304716)) else false
def oRightC (o : V7) : Bool := if 0 ≤ o.2.1 then if o.2.1 ≤ 109951162777 then let r1 := oFarC o.1 o.2.1; if r1 then if 0 ≤ o.2.2.1 then if o.2.2.1 ≤ 3454217652358 then let r2 := oAngC o.2.2.2.1; if r2 then let r3 := oAngC o.2.2.2.2.1; if r3 then let r4 := oAngC o.2.2.2.2.2.1; if r4 then let r5 := cRight o.2.2.2.2.2.2; r5 else false else false else false else false else false else false else false else false
def oKepC (bad : Bool) (m : Int) (k : Int) : (Int) × Bool := if k < 0 then (0, true) else if k > 109951162777 then (0, true) else let r9 := kStep bad m k m; let r18 := kStep r9.2 m k r9.1; let r27 := kStep r18.2 m k r18.1; let r36 := kStep r27.2 m k r27.1; let r45 := kStep r36.2 m k r36.1; let r54 := kStep r45.2 m k r45.1; (r54.1, r54.2)
def pAngC (a : Int) : Bool := if a ≥ (-6908435304716) then (decide (a ≤ 6908435304716)) else false
def pRightC (o : V7) : Bool := if o.2.1 < 0 then false else if o.2.1 > 109951162777 then false else if o.2.2.1 < 0 then false else if o.2.2.1 > 3454217652358 then false else let r1 := pAngC o.2.2.2.1; if r1 then let r2 := pAngC o.2.2.2.2.1; if r2 then let r3 := pAngC o.2.2.2.2.2.1; if r3 then let r4 := cRight o.2.2.2.2.2.2; if r4 then let r5 := mulS false o.1 (1099511627776 - o.2.1); let r6 := mulS r5.2 o.1 (1099511627776 + o.2.1); if r6.2 then false else if r5.1 ≥ 7232738120604 then (decide (r6.1 ≤ 9211859050600)) else false else false else false else false else false
def pKepC (bad : Bool) (m : Int) (k : Int) : (Int) × Bool := if k < 0 then (0, true) else if k > 109951162777 then (0, true) else let r1 := addS bad m 0; let r10 := kStep r1.2 m k r1.1; let r19 := kStep r10.2 m k r10.1; let r28 := kStep r19.2 m k r19.1; let r37 := kStep r28.2 m k r28.1; let r46 := kStep r37.2 m k r37.1; let r55 := kStep r46.2 m k r46.1; (r55.1, r55.2)
def shapeS (bad : Bool) (o : V7) : (V3) × Bool := let r1 := mulS bad o.2.1 o.2.1; let r2 := subS r1.2 1099511627776 r1.1; let r3 := sqrtS r2.2 r2.1; let r4 := sinA r3.2 o.2.2.1; let r5 := cosA r4.2 o.2.2.1; ((r3.1, r4.1, r5.1), r5.2)
def driftS (bad : Bool) (o : V7) (s : V3) (d : Int) : (V3) × Bool := let r1 := divS bad 3271636820114455529 o.1; let r2 := sqrtS r1.2 r1.1; let r3 := divS r2.2 r2.1 o.1; let r4 := mulS r3.2 s.1 s.1; let r5 := mulS r4.2 o.1 r4.1; let r6 := divS r5.2 7012835795048 r5.1; let r7 := mulS r6.2 r6.1 r6.1; let r8 := mulS r7.2 1785540935 r7.1; let r9 := mulS r8.2 r8.1 r3.1; let r10 := mulS r9.2 s.2.1 s.2.1; let r11 := partS r10.2 r10.1 5 2; let r12 := subS r11.2 2199023255552 r11.1; let r13 := mulS r12.2 r9.1 r12.1; let r14 := mulS r13.2 r9.1 s.1; let r15 := partS r14.2 r10.1 3 2; let r16 := subS r15.2 1099511627776 r15.1; let r17 := mulS r16.2 r14.1 r16.1; let r18 := mulS r17.2 r9.1 s.2.2; let r19 := mulS r18.2 r18.1 d; let r20 := subS r19.2 o.2.2.2.1 r19.1; let r21 := mulS r20.2 r13.1 d; let r22 := addS r21.2 o.2.2.2.2.1 r21.1; let r23 := addS r22.2 r3.1 r17.1; let r24 := mulS r23.2 r23.1 d; let r25 := addS r24.2 o.2.2.2.2.2.1 r24.1; let r26 := modS r25.2 r25.1 6908435304716; ((r20.1, r22.1, r26.1), r26.2)
def turnedS (bad : Bool) (u : Int) (v : Int) (a : Int) : (Int × Int) × Bool := let r1 := sinA bad a; let r2 := cosA r1.2 a; let r3 := mulS r2.2 u r2.1; let r4 := mulS r3.2 v r1.1; let r5 := subS r4.2 r3.1 r4.1; let r6 := mulS r5.2 u r1.1; let r7 := mulS r6.2 v r2.1; let r8 := addS r7.2 r6.1 r7.1; ((r5.1, r8.1), r8.2)
theorem shapeS_true (o : V7) : shapeS true o = ((0, 0, 0), true) := by simp [shapeS, sinA_true, mulS_true, subS_true, cosA_true, sqrtS_true]
theorem driftS_true (o : V7) (s : V3) (d : Int) : driftS true o s d = ((0, 0, 0), true) := by simp [driftS, mulS_true, subS_true, addS_true, divS_true, sqrtS_true, partS_true, modS_true]
theorem turnedS_true (u v a : Int) : turnedS true u v a = ((0, 0), true) := by simp [turnedS, sinA_true, mulS_true, subS_true, cosA_true, addS_true]
theorem oKepC_true (m e : Int) : oKepC true m e = (0, true) := by
  unfold oKepC
  split
  · rfl
  split
  · rfl
  simp only [kStep_true]
theorem pKepC_eq (bad : Bool) (m e : Int) : pKepC bad m e = oKepC bad m e := by
  unfold pKepC oKepC
  by_cases c : e < 0
  · rw [if_pos c, if_pos c]
  rw [if_neg c, if_neg c]
  by_cases d : e > 109951162777
  · rw [if_pos d, if_pos d]
  rw [if_neg d, if_neg d]
  cases bad
  · cases h : numB m
    · have s : sinA false m = (0, true) := by
        apply sinA_bad
        unfold badM
        rw [modS_no (by unfold tk; simp [h])]
      have k : kStep false m e m = (0, true) := by simp [kStep, s, mulS_true, subS_true, cosA_true, divS_true]
      simp only [addS_nonl h, k, kStep_true]
    · have a : addS false m 0 = (m, false) := by
        rw [addS_yes (by unfold tk; simp [h]; rfl)]
        unfold gv
        rw [Int.add_zero, h]
        rfl
      simp only [a]
  · simp only [addS_true, kStep_true]
theorem pAngC_eq (a : Int) : pAngC a = oAngC a := rfl
theorem pRightC_eq (o : V7) : pRightC o = oRightC o := by
  unfold pRightC oRightC oFarC
  simp only [pAngC_eq]
  by_cases c1 : o.2.1 < 0
  · rw [if_pos c1, if_neg (by omega)]
  rw [if_neg c1, if_pos (show 0 ≤ o.2.1 by omega)]
  by_cases c2 : o.2.1 > 109951162777
  · rw [if_pos c2, if_neg (by omega)]
  rw [if_neg c2, if_pos (show o.2.1 ≤ 109951162777 by omega)]
  by_cases c3 : o.2.2.1 < 0
  · rw [if_pos c3, if_neg (show ¬ 0 ≤ o.2.2.1 by omega), ite_self]
  rw [if_neg c3, if_pos (show 0 ≤ o.2.2.1 by omega)]
  by_cases c4 : o.2.2.1 > 3454217652358
  · rw [if_pos c4, if_neg (show ¬ o.2.2.1 ≤ 3454217652358 by omega), ite_self]
  rw [if_neg c4, if_pos (show o.2.2.1 ≤ 3454217652358 by omega)]
  generalize oAngC o.2.2.2.1 = x1
  generalize oAngC o.2.2.2.2.1 = x2
  generalize oAngC o.2.2.2.2.2.1 = x3
  generalize cRight o.2.2.2.2.2.2 = x4
  generalize mulS false o.1 (1099511627776 - o.2.1) = y1
  generalize mulS y1.2 o.1 (1099511627776 + o.2.1) = y2
  by_cases d : y1.1 ≥ 7232738120604
  · simp only [if_pos d]
    generalize decide (y2.1 ≤ 9211859050600) = x5
    cases x1 <;> cases x2 <;> cases x3 <;> cases x4 <;> cases x5 <;> cases y2.2 <;> rfl
  · simp only [if_neg d]
    cases x1 <;> cases x2 <;> cases x3 <;> cases x4 <;> cases y2.2 <;> rfl
theorem oAngC_get {a : Int} (h : oAngC a = true) : Ab a 6908435304716 := by
  unfold oAngC at h
  split at h
  · exact ⟨by omega, of_decide_eq_true h⟩
  · cases h
theorem oFarC_get {a e : Int} (h : oFarC a e = true) : ∃ low high, mulS false a (1099511627776 - e) = (low, false) ∧ mulS false a (1099511627776 + e) = (high, false) ∧ 7232738120604 ≤ low ∧ high ≤ 9211859050600 := by
  unfold oFarC at h
  dsimp only at h
  generalize e1 : mulS false a (1099511627776 - e) = y1 at h
  obtain ⟨low, b1⟩ := y1
  cases b1
  · dsimp only at h
    generalize e2 : mulS false a (1099511627776 + e) = y2 at h
    obtain ⟨high, b2⟩ := y2
    cases b2
    · simp only [Bool.false_eq_true, if_false] at h
      split at h
      · exact ⟨low, high, rfl, rfl, by omega, of_decide_eq_true h⟩
      · cases h
    · simp at h
  · dsimp only at h
    rw [mulS_true] at h
    simp at h
/-- Right elements. -/
structure OIn (o : V7) : Prop where
  e0 : 0 ≤ o.2.1
  e1 : o.2.1 ≤ 109951162777
  far : ∃ low high, mulS false o.1 (1099511627776 - o.2.1) = (low, false) ∧ mulS false o.1 (1099511627776 + o.2.1) = (high, false) ∧ 7232738120604 ≤ low ∧ high ≤ 9211859050600
  i0 : 0 ≤ o.2.2.1
  i1 : o.2.2.1 ≤ 3454217652358
  nd : Ab o.2.2.2.1 6908435304716
  pe : Ab o.2.2.2.2.1 6908435304716
  mm : Ab o.2.2.2.2.2.1 6908435304716
  at_ : cRight o.2.2.2.2.2.2 = true
theorem oRightC_get {o : V7} (h : oRightC o = true) : OIn o := by
  unfold oRightC at h
  dsimp only at h
  split at h
  · split at h
    · split at h
      · split at h
        · split at h
          · split at h
            · split at h
              · split at h
                · rename_i c1 c2 c3 c4 c5 c6 c7 c8
                  exact ⟨c1, c2, oFarC_get c3, c4, c5, oAngC_get c6, oAngC_get c7, oAngC_get c8, h⟩
                · cases h
              · cases h
            · cases h
          · cases h
        · cases h
      · cases h
    · cases h
  · cases h
theorem cRight_get {t : Int} (h : cRight t = true) : 0 ≤ t ∧ t ≤ 157766400000 := by
  rcases cRight_cases t with c | c
  · exact c
  · rw [cRight_out c] at h; cases h
theorem kStep_res {m e x s p g c q δ : Int} (R : Res m e x s p g) (N : Rnd x g c q δ e) : kStep false m e x = (x - δ, false) := by
  unfold kStep
  simp only [R.sn, R.mu, R.s1, R.s2, N.cs, N.mu, N.su, N.dv, N.go]
theorem six_kep {m e x : Int} (e0 : 0 ≤ e) (e1 : e ≤ 109951162777) (h : Six m e 6 x) : oKepC false m e = (x, false) := by
  unfold oKepC
  rw [if_neg (by omega), if_neg (by omega)]
  obtain ⟨x5, _, _, _, _, _, _, h, R6, N6, rfl⟩ := h
  obtain ⟨x4, _, _, _, _, _, _, h, R5, N5, rfl⟩ := h
  obtain ⟨x3, _, _, _, _, _, _, h, R4, N4, rfl⟩ := h
  obtain ⟨x2, _, _, _, _, _, _, h, R3, N3, rfl⟩ := h
  obtain ⟨x1, _, _, _, _, _, _, h, R2, N2, rfl⟩ := h
  obtain ⟨x0, _, _, _, _, _, _, h, R1, N1, rfl⟩ := h
  have e : x0 = m := h
  subst e
  simp only [kStep_res R1 N1, kStep_res R2 N2, kStep_res R3 N3, kStep_res R4 N4, kStep_res R5 N5, kStep_res R6 N6]
theorem shape_good {o : V7} {d : Int} (G : Angles o.1 o.2.1 o.2.2.1 o.2.2.2.1 o.2.2.2.2.1 o.2.2.2.2.2.1 d) : shapeS false o = ((G.r, G.s, G.c), false) := by
  unfold shapeS
  simp only [G.he2, G.hoe, G.hr, G.hs, G.hc]
theorem drift_good {o : V7} {d : Int} (G : Angles o.1 o.2.1 o.2.2.1 o.2.2.2.1 o.2.2.2.2.1 o.2.2.2.2.2.1 d) : driftS false o (G.r, G.s, G.c) d = ((o.2.2.2.1 - G.kcd, o.2.2.2.2.1 + G.kyd, (o.2.2.2.2.2.1 + G.mm) % 6908435304716), false) := by
  unfold driftS
  simp only [G.hn1, G.hn2, G.hn, G.hrr, G.hp, G.hk1, G.hk2, G.hk3, G.hk, G.ht, G.ht5, G.hy5, G.hky, G.hkr, G.ht3, G.hy3, G.hw, G.hkc, G.hkcd, G.hnode, G.hkyd, G.hperi, G.hnw, G.hmm, G.hMm, G.hm]
theorem turn1_good {A E e2 r s c node peri x : Int} (Q : Plane A E e2 r s c node peri x) : turnedS false Q.u Q.v peri = ((Q.m1 - Q.m2, Q.m3 + Q.m4), false) := by
  unfold turnedS
  simp only [Q.hsq, Q.hcq, Q.h1, Q.h2, Q.ha, Q.h3, Q.h4, Q.hb]
theorem turn2_good {A E e2 r s c node peri x : Int} (Q : Plane A E e2 r s c node peri x) : turnedS false (Q.m1 - Q.m2) Q.bc node = ((Q.m5 - Q.m6, Q.m7 + Q.m8), false) := by
  unfold turnedS
  simp only [Q.hsn, Q.hcn, Q.h5, Q.h6, Q.hX, Q.h7, Q.h8, Q.hY]
/-- The place, of right elements at a right tick. -/
def placeV (o : V7) (t : Int) : V3 :=
  let d := (subS false (cDaysS false t).1 (cDaysS false o.2.2.2.2.2.2).1).1
  let s := (shapeS false o).1
  let a := (driftS false o s d).1
  let x := (oKepC false a.2.2 o.2.1).1
  let u := (mulS false o.1 (subS false (cosA false x).1 o.2.1).1).1
  let v := (mulS false (mulS false o.1 s.1).1 (sinA false x).1).1
  let p := (turnedS false u v a.2.1).1
  let q := (turnedS false p.1 (mulS false p.2 s.2.2).1 a.1).1
  (q.1, q.2, (mulS false p.2 s.2.1).1)
def placeS (bad : Bool) (o : V7) (t : Int) : V3 × Bool := if oRightC o && cRight t && !bad then (placeV o t, false) else ((0, 0, 0), true)
/-- All steps of Place, of right elements at a right tick. -/
structure Steps (o : V7) (t : Int) : Type where
  (dt da : Int)
  hdt : cDaysS false t = (dt, false)
  hda : cDaysS false o.2.2.2.2.2.2 = (da, false)
  hd : subS false dt da = (dt - da, false)
  G : Angles o.1 o.2.1 o.2.2.1 o.2.2.2.1 o.2.2.2.2.1 o.2.2.2.2.2.1 (dt - da)
  x : Int
  hx : oKepC false ((o.2.2.2.2.2.1 + G.mm) % 6908435304716) o.2.1 = (x, false)
  Q : Plane o.1 o.2.1 G.e2 G.r G.s G.c (o.2.2.2.1 - G.kcd) (o.2.2.2.2.1 + G.kyd) x
  e : placeS false o t = ((Q.m5 - Q.m6, Q.m7 + Q.m8, Q.z), false)
theorem steps_at {o : V7} {t : Int} (hr : oRightC o = true) (ht : cRight t = true) : Nonempty (Steps o t) := by
  have O := oRightC_get hr
  obtain ⟨low, high, hl, hh, l1, h1⟩ := O.far
  obtain ⟨A1, A2⟩ := right_A O.e0 O.e1 hl hh l1 h1
  obtain ⟨t0, t1⟩ := cRight_get ht
  obtain ⟨a0, a1⟩ := cRight_get O.at_
  have ed := cDaysS_in t0 t1
  have ea := cDaysS_in a0 a1
  have d1 : 0 ≤ cDay t ∧ cDay t ≤ 2007708232318976 := by unfold cDay rnd; omega
  have d2 : 0 ≤ cDay o.2.2.2.2.2.2 ∧ cDay o.2.2.2.2.2.2 ≤ 2007708232318976 := by unfold cDay rnd; omega
  have b1 : Ab (cDay t) 2007708232318976 := ⟨by omega, by omega⟩
  have b2 : Ab (cDay o.2.2.2.2.2.2) 2007708232318976 := ⟨by omega, by omega⟩
  obtain ⟨G⟩ := angles_at (I := o.2.2.1) A1 A2 O.e0 O.e1 (show Ab o.2.2.1 6908435304716 from ⟨by have := O.i0; omega, by have := O.i1; omega⟩) O.nd O.pe O.mm (show Ab (cDay t - cDay o.2.2.2.2.2.2) 2007708232318976 from ⟨by omega, by omega⟩)
  obtain ⟨x, s, p, g, X, R, gb⟩ := kepler_math (m := (o.2.2.2.2.2.1 + G.mm) % 6908435304716) (e := o.2.1) ⟨by omega, by omega, O.e0, O.e1⟩
  have xn : numB x = true := by
    have := R.eq; have := R.pb.lo; have := R.pb.hi; have := gb.lo; have := gb.hi
    exact numB_of ⟨by omega, by omega⟩
  obtain ⟨Q⟩ := plane_at A1 A2 O.e0 O.e1 G.ee G.r0 G.ro G.r1 G.r2 G.sc G.nnode G.nperi xn
  have hx := six_kep O.e0 O.e1 X
  have hd : subS false (cDay t) (cDay o.2.2.2.2.2.2) = (cDay t - cDay o.2.2.2.2.2.2, false) := sub_near b1 b2 (by decide) (by decide) (by decide)
  refine ⟨⟨_, _, ed, ea, hd, G, x, hx, Q, ?_⟩⟩
  unfold placeS placeV
  rw [hr, ht]
  simp only [ed, ea, hd, shape_good G, drift_good G, hx, Q.hcx, Q.hce, Q.hu, Q.hw1, Q.hsx, Q.hv, turn1_good Q, Q.hbc, turn2_good Q, Q.hz]
  rfl
theorem placeS_cases (bad : Bool) (o : V7) (t : Int) : (oRightC o = false ∧ placeS bad o t = ((0, 0, 0), true)) ∨ (oRightC o = true ∧ cRight t = false ∧ placeS bad o t = ((0, 0, 0), true)) ∨ (oRightC o = true ∧ cRight t = true ∧ bad = true ∧ placeS bad o t = ((0, 0, 0), true)) ∨ (oRightC o = true ∧ cRight t = true ∧ bad = false ∧ Nonempty (Steps o t)) := by
  cases hr : oRightC o
  · exact .inl ⟨rfl, by unfold placeS; rw [hr]; rfl⟩
  cases ht : cRight t
  · exact .inr (.inl ⟨rfl, rfl, by unfold placeS; rw [hr, ht]; rfl⟩)
  cases bad
  · exact .inr (.inr (.inr ⟨rfl, rfl, rfl, steps_at hr ht⟩))
  · exact .inr (.inr (.inl ⟨rfl, rfl, rfl, by unfold placeS; rw [hr, ht]; rfl⟩))
end Go.Proofs.YtoadcnhcfodkgaaGreatDoor
