/-
  Package quat's steps and the reference's are the same; units, for the seat YtoadcnhcfodkgaaGreatDoor. No Go text in sight.
-/
import Derived.Test.YtoadcnhcfodkgaaGreatDoorXSpec
import Derived.Test.YtoadcnhcfodkgaaGreatDoorVNear
namespace Go.Proofs.YtoadcnhcfodkgaaGreatDoor
open Go.RowKit
set_option linter.unusedSimpArgs false

theorem vAdd_true (p q : V3) : vAddS true p q = ((0, 0, 0), true) := by simp [vAddS, addS_true, soundS_yes]
theorem vSub_true (p q : V3) : vSubS true p q = ((0, 0, 0), true) := by simp [vSubS, subS_true, soundS_yes]
theorem vScale_true (p : V3) (k : Int) : vScaleS true p k = ((0, 0, 0), true) := by simp [vScaleS, mulS_true, soundS_yes]
theorem xjoin_yes (p : V3) (k : Int) : xjoinS true p k = ((0, 0, 0, 0), true) := rfl
theorem xjoin_no (p : V3) (k : Int) : xjoinS false p k = ((p.1, p.2.1, p.2.2, k), false) := rfl
theorem xMul_eq : xMulS = qMulS := by
  funext bad p q
  unfold xMulS qMulS
  rw [uScale_eq, uCross_eq, uAdd_eq, uDot_eq]
  dsimp only
  generalize vScaleS bad (p.1, p.2.1, p.2.2.1) q.2.2.2 = r1
  generalize vScaleS r1.2 (q.1, q.2.1, q.2.2.1) p.2.2.2 = r2
  cases h2 : r2.2
  · cases hA : vAddS false r1.1 r2.1 with
    | mk A1 A2 =>
      cases hC : vCrossS false (q.1, q.2.1, q.2.2.1) (p.1, p.2.1, p.2.2.1) with
      | mk C1 C2 =>
        cases A2 <;> cases C2
        · simp only [hA, hC]
          generalize vAddS false A1 C1 = r3
          generalize mulS r3.2 p.2.2.2 q.2.2.2 = r4
          generalize vDotS r4.2 (p.1, p.2.1, p.2.2.1) (q.1, q.2.1, q.2.2.1) = r5
          generalize subS r5.2 r4.1 r5.1 = r6
          cases h6 : r6.2
          · simp [xjoin_no, sound4S_no]
          · simp [xjoin_yes, sound4S_yes]
        · simp [hA, hC, vAdd_true, vCross_true, vDot_true, mulS_true, subS_true, xjoin_yes, sound4S_yes]
        · simp [hA, hC, vAdd_true, vCross_true, vDot_true, mulS_true, subS_true, xjoin_yes, sound4S_yes]
        · simp [hA, hC, vAdd_true, vCross_true, vDot_true, mulS_true, subS_true, xjoin_yes, sound4S_yes]
  · simp [vAdd_true, vCross_true, vDot_true, mulS_true, subS_true, xjoin_yes, sound4S_yes]
theorem xTurn_eq : xTurnS = qTurnS := by
  funext bad q v
  unfold xTurnS qTurnS
  rw [uScale_eq, uCross_eq, uAdd_eq, uSub_eq]
theorem minus_ways (a : Int) : (a ≥ -4611686018427387904 ∧ a ≤ 4611686018427387904 ∧ minusS a = -a) ∨ (¬ a ≥ -4611686018427387904 ∧ minusS a = a) ∨ (a ≥ -4611686018427387904 ∧ ¬ a ≤ 4611686018427387904 ∧ minusS a = a) := by
  by_cases h : a < -4611686018427387904
  · exact Or.inr (Or.inl ⟨by omega, minusS_lo h⟩)
  · by_cases k : 4611686018427387904 < a
    · exact Or.inr (Or.inr ⟨by omega, by omega, minusS_hi k⟩)
    · exact Or.inl ⟨by omega, by omega, minusS_in (by omega) (by omega)⟩
theorem xBack_eq : xBackS = qBackS := by
  funext q
  obtain ⟨a, b, c, d⟩ := q
  unfold xBackS qBackS
  dsimp only
  rcases minus_ways a with ⟨a1, a2, a3⟩ | ⟨a1, a3⟩ | ⟨a1, a2, a3⟩ <;> rcases minus_ways b with ⟨b1, b2, b3⟩ | ⟨b1, b3⟩ | ⟨b1, b2, b3⟩ <;> rcases minus_ways c with ⟨c1, c2, c3⟩ | ⟨c1, c3⟩ | ⟨c1, c2, c3⟩ <;> simp only [*, if_true, if_false]
/-- A unit: of what is too short, or none; or of four numbers, with their length and their quotients. -/
theorem qUnit_cases (bad : Bool) (q : V4) :
    ((normS (vNormS bad (q.1, q.2.1, q.2.2.1)).2 (vNormS bad (q.1, q.2.1, q.2.2.1)).1 q.2.2.2 0).1 < 549755813888 ∧ qUnitS bad q = ((0, 0, 0, 0), true)) ∨
    (∃ N n d0 d1 d2 d3, bad = false ∧ normS false q.1 q.2.1 q.2.2.1 = (N, false) ∧ normS false N q.2.2.2 0 = (n, false) ∧ 549755813888 ≤ n ∧ divS false q.1 n = (d0, false) ∧ divS false q.2.1 n = (d1, false) ∧ divS false q.2.2.1 n = (d2, false) ∧ divS false q.2.2.2 n = (d3, false) ∧
      Uof d0 q.1 n ∧ Uof d1 q.2.1 n ∧ Uof d2 q.2.2.1 n ∧ Uof d3 q.2.2.2 n ∧ qUnitS bad q = (if d3 < 0 then (-d0, -d1, -d2, -d3) else (d0, d1, d2, d3), false)) := by
  have hN : vNormS bad (q.1, q.2.1, q.2.2.1) = normS bad q.1 q.2.1 q.2.2.1 := rfl
  by_cases c : (normS (vNormS bad (q.1, q.2.1, q.2.2.1)).2 (vNormS bad (q.1, q.2.1, q.2.2.1)).1 q.2.2.2 0).1 < 549755813888
  · exact Or.inl ⟨c, by unfold qUnitS; dsimp only; rw [if_pos c]⟩
  · refine Or.inr ?_
    rw [hN] at c
    cases h1 : normS bad q.1 q.2.1 q.2.2.1 with
    | mk N b1 =>
      rw [h1] at c
      dsimp only at c
      cases h2 : normS b1 N q.2.2.2 0 with
      | mk n b2 =>
        rw [h2] at c
        dsimp only at c
        have hb2 : b2 = false := by
          cases b2
          · rfl
          · have := normS_bad b1 N q.2.2.2 0 (by rw [h2])
            rw [h2] at this
            have : n = 0 := this
            omega
        subst hb2
        have g2 := normS_good h2
        have hb1 := g2.1
        subst hb1
        have g1 := normS_good h1
        have hb := g1.1
        subst hb
        have s0 := sq_nonneg q.1
        have s1 := sq_nonneg q.2.1
        have s2 := sq_nonneg q.2.2.1
        have s3 := sq_nonneg q.2.2.2
        have sN := sq_nonneg N
        have k0 := abs_le_of_sq (a := q.1) g1.2.2.2.2.1 (by omega)
        have k1 := abs_le_of_sq (a := q.2.1) g1.2.2.2.2.1 (by omega)
        have k2 := abs_le_of_sq (a := q.2.2.1) g1.2.2.2.2.1 (by omega)
        have kN := abs_le_of_sq (a := N) g2.2.2.2.2.1 (by omega)
        have k3 := abs_le_of_sq (a := q.2.2.2) g2.2.2.2.2.1 (by omega)
        obtain ⟨d0, e0, U0⟩ := div_unit q.1 n (by omega) (by omega)
        obtain ⟨d1, e1, U1⟩ := div_unit q.2.1 n (by omega) (by omega)
        obtain ⟨d2, e2, U2⟩ := div_unit q.2.2.1 n (by omega) (by omega)
        obtain ⟨d3, e3, U3⟩ := div_unit q.2.2.2 n (by omega) (by omega)
        refine ⟨N, n, d0, d1, d2, d3, rfl, h1, h2, by omega, e0, e1, e2, e3, U0, U1, U2, U3, ?_⟩
        have ew : uprightS (d0, d1, d2, d3) = if d3 < 0 then (-d0, -d1, -d2, -d3) else (d0, d1, d2, d3) := by
          have := U0.lo; have := U0.hi; have := U1.lo; have := U1.hi; have := U2.lo; have := U2.hi; have := U3.lo; have := U3.hi
          unfold uprightS
          dsimp only
          by_cases k : d3 < 0
          · rw [if_neg (by omega), if_pos k, minusS_in (by omega) (by omega), minusS_in (by omega) (by omega), minusS_in (by omega) (by omega), minusS_in (by omega) (by omega)]
          · rw [if_pos (by omega), if_neg k]
        unfold qUnitS
        simp only [hN, h1, h2, e0, e1, e2, e3, if_neg c, ew]
theorem qUnit_true (q : V4) : qUnitS true q = ((0, 0, 0, 0), true) := by
  unfold qUnitS
  simp only [vNorm_true, normS_true]
  rw [if_pos (by decide)]
theorem xUnit_eq : xUnitS = qUnitS := by
  funext bad q
  rcases qUnit_cases bad q with ⟨c, e⟩ | ⟨N, n, d0, d1, d2, d3, rfl, h1, h2, c, e0, e1, e2, e3, _, _, _, _, e⟩
  · rw [e]
    unfold xUnitS
    have c' : (normS (normS bad q.1 q.2.1 q.2.2.1).2 (normS bad q.1 q.2.1 q.2.2.1).1 q.2.2.2 0).1 < 549755813888 := c
    dsimp only
    rw [if_pos c']
  · rw [e]
    unfold xUnitS
    have c' : ¬ n < 549755813888 := by omega
    simp only [h1, h2, e0, e1, e2, e3, if_neg c']
    by_cases k : d3 < 0
    · simp [k]
    · simp [k]
theorem xFromRod_eq : xFromRodS = qFromRodS := by
  funext bad p
  unfold xFromRodS qFromRodS
  rw [uDot_eq, xUnit_eq]
/-- What ToRod works, of an attitude that stands upright. -/
def rodS (bad : Bool) (q : V4) : V3 × Bool := let r2 := addS bad 1099511627776 q.2.2.2; let r3 := mulS r2.2 q.1 4398046511104; let r4 := divS r3.2 r3.1 r2.1; let r5 := mulS r4.2 q.2.1 4398046511104; let r6 := divS r5.2 r5.1 r2.1; let r7 := mulS r6.2 q.2.2.1 4398046511104; let r8 := divS r7.2 r7.1 r2.1; let r9 := soundS r8.2 (r4.1, r6.1, r8.1); (r9.1, r9.2)
theorem qToRod_rod (bad : Bool) (q : V4) : qToRodS bad q = rodS bad (uprightS q) := rfl
theorem addS_nonl {bad : Bool} {a b : Int} (h : numB a = false) : addS bad a b = (0, true) := addS_no (by unfold tk; simp [h])
theorem addS_nonr {bad : Bool} {a b : Int} (h : numB b = false) : addS bad a b = (0, true) := addS_no (by unfold tk; simp [h])
theorem mulS_nonl {bad : Bool} {a b : Int} (h : numB a = false) : mulS bad a b = (0, true) := mulS_no (by unfold tk; simp [h])
theorem rodS_bad (bad : Bool) (q : V4) (h : bad = true ∨ numB q.1 = false ∨ numB q.2.1 = false ∨ numB q.2.2.1 = false ∨ numB q.2.2.2 = false) : rodS bad q = ((0, 0, 0), true) := by
  unfold rodS
  rcases h with h | h | h | h | h
  · subst h; simp [addS_true, mulS_true, divS_true, soundS_yes]
  · simp [mulS_nonl h, mulS_true, divS_true, soundS_yes]
  · simp [mulS_nonl h, mulS_true, divS_true, soundS_yes]
  · simp [mulS_nonl h, mulS_true, divS_true, soundS_yes]
  · simp [addS_nonr h, mulS_true, divS_true, soundS_yes]
theorem numB_minus (a : Int) : numB (minusS a) = numB a := by
  rcases minus_ways a with ⟨_, _, e⟩ | ⟨_, e⟩ | ⟨_, _, e⟩ <;> rw [e]
  exact numB_neg a
theorem addS_zero {a : Int} (h : numB a = true) : addS false a 0 = (a, false) := by
  have := addS_good a 0 h (by rfl) (by rw [Int.add_zero]; exact h)
  rw [Int.add_zero] at this
  exact this
theorem xToRod_eq : xToRodS = qToRodS := by
  funext bad q
  rw [qToRod_rod]
  by_cases g : bad = false ∧ numB q.1 = true ∧ numB q.2.1 = true ∧ numB q.2.2.1 = true ∧ numB q.2.2.2 = true
  · obtain ⟨rfl, h0, h1, h2, h3⟩ := g
    have b0 := numB_bd h0
    have b1 := numB_bd h1
    have b2 := numB_bd h2
    have b3 := numB_bd h3
    have key : ∀ (x y z t : Int) , rodS false (x, y, z, t) = (let r5 := addS false 1099511627776 t; let r6 := mulS r5.2 x 4398046511104; let r7 := divS r6.2 r6.1 r5.1; let r8 := mulS r7.2 y 4398046511104; let r9 := divS r8.2 r8.1 r5.1; let r10 := mulS r9.2 z 4398046511104; let r11 := divS r10.2 r10.1 r5.1; if r11.2 then ((0, 0, 0), r11.2) else ((r7.1, r9.1, r11.1), r11.2)) := by
      intro x y z t
      unfold rodS
      dsimp only
      generalize addS false 1099511627776 t = s2
      generalize mulS s2.2 x 4398046511104 = s3
      generalize divS s3.2 s3.1 s2.1 = s4
      generalize mulS s4.2 y 4398046511104 = s5
      generalize divS s5.2 s5.1 s2.1 = s6
      generalize mulS s6.2 z 4398046511104 = s7
      generalize divS s7.2 s7.1 s2.1 = s8
      cases h : s8.2
      · simp [soundS_no]
      · simp [soundS_yes]
    unfold xToRodS
    simp only [addS_zero h0, addS_zero h1, addS_zero h2, addS_zero h3]
    by_cases k : q.2.2.2 < 0
    · have e : uprightS q = (-q.1, -q.2.1, -q.2.2.1, -q.2.2.2) := by
        unfold uprightS
        rw [if_neg (by omega), minusS_in b0.1 b0.2, minusS_in b1.1 b1.2, minusS_in b2.1 b2.2, minusS_in b3.1 b3.2]
      rw [e, key, if_neg (by decide), if_pos k]
    · have e : uprightS q = (q.1, q.2.1, q.2.2.1, q.2.2.2) := by
        unfold uprightS
        rw [if_pos (by omega)]
      rw [e, key, if_neg (by decide), if_neg k]
  · have hR : rodS bad (uprightS q) = ((0, 0, 0), true) := by
      apply rodS_bad
      have : numB (uprightS q).1 = numB q.1 ∧ numB (uprightS q).2.1 = numB q.2.1 ∧ numB (uprightS q).2.2.1 = numB q.2.2.1 ∧ numB (uprightS q).2.2.2 = numB q.2.2.2 := by
        unfold uprightS
        split
        · exact ⟨rfl, rfl, rfl, rfl⟩
        · exact ⟨numB_minus _, numB_minus _, numB_minus _, numB_minus _⟩
      rw [this.1, this.2.1, this.2.2.1, this.2.2.2]
      cases bad
      · cases h0 : numB q.1 <;> cases h1 : numB q.2.1 <;> cases h2 : numB q.2.2.1 <;> cases h3 : numB q.2.2.2 <;> simp_all
      · exact Or.inl rfl
    rw [hR]
    unfold xToRodS
    cases bad
    · cases h0 : numB q.1
      · simp [addS_nonl h0, addS_true]
      · cases h1 : numB q.2.1
        · simp [addS_nonl h1, addS_true]
        · cases h2 : numB q.2.2.1
          · simp [addS_nonl h2, addS_true]
          · cases h3 : numB q.2.2.2
            · simp [addS_nonl h3]
            · exact absurd ⟨rfl, h0, h1, h2, h3⟩ g
    · simp [addS_true]
end Go.Proofs.YtoadcnhcfodkgaaGreatDoor
