/-
  The angles that Place works, of right elements: nothing goes bad, for the seat YtoadcnhcfodkgaaGreatDoor. No Go text in sight.
-/
import Derived.Test.YtoadcnhcfodkgaaGreatDoorOrbC
namespace Go.Proofs.YtoadcnhcfodkgaaGreatDoor

theorem right_A {A E low high : Int} (E1 : 0 ≤ E) (E2 : E ≤ 109951162777) (hl : mulS false A (1099511627776 - E) = (low, false)) (hh : mulS false A (1099511627776 + E) = (high, false)) (l1 : 7232738120604 ≤ low) (h1 : high ≤ 9211859050600) : 7146825580544 ≤ A ∧ A ≤ 9211859050600 := by
  have a := mul_get hl
  have b := mul_get hh
  have a2 := a.hi; have b1 := b.lo
  have A0 : 0 ≤ A := by
    apply Classical.byContradiction
    intro g
    have := Int.mul_nonneg (show 0 ≤ -A by omega) (show 0 ≤ 1099511627776 - E by omega)
    rw [Int.neg_mul] at this
    omega
  have p1 := Int.mul_nonneg A0 E1
  have e1 : A * (1099511627776 - E) = 1099511627776 * A - A * E := by grind
  have e2 : A * (1099511627776 + E) = 1099511627776 * A + A * E := by grind
  rw [e1] at a2
  rw [e2] at b1
  exact ⟨by omega, by omega⟩
/-- The angles of a place, step by step. -/
structure Angles (A E I Node Peri M d : Int) : Type where
  (n1 n2 n e2 r rr p k1 k2 k3 k s c t kc kcd t5 ky kyd kr t3 w mm : Int)
  hn1 : divS false 3271636820114455529 A = (n1, false)
  hn2 : sqrtS false n1 = (n2, false)
  hn : divS false n2 A = (n, false)
  he2 : mulS false E E = (e2, false)
  hoe : subS false 1099511627776 e2 = (1099511627776 - e2, false)
  hr : sqrtS false (1099511627776 - e2) = (r, false)
  hrr : mulS false r r = (rr, false)
  hp : mulS false A rr = (p, false)
  hk1 : divS false 7012835795048 p = (k1, false)
  hk2 : mulS false k1 k1 = (k2, false)
  hk3 : mulS false 1785540935 k2 = (k3, false)
  hk : mulS false k3 n = (k, false)
  hs : sinA false I = (s, false)
  hc : cosA false I = (c, false)
  sc : Sc s c
  ht : mulS false s s = (t, false)
  hkc : mulS false k c = (kc, false)
  hkcd : mulS false kc d = (kcd, false)
  hnode : subS false Node kcd = (Node - kcd, false)
  nnode : numB (Node - kcd) = true
  ht5 : partS false t 5 2 = (t5, false)
  hy5 : subS false 2199023255552 t5 = (2199023255552 - t5, false)
  hky : mulS false k (2199023255552 - t5) = (ky, false)
  hkyd : mulS false ky d = (kyd, false)
  hperi : addS false Peri kyd = (Peri + kyd, false)
  nperi : numB (Peri + kyd) = true
  hkr : mulS false k r = (kr, false)
  ht3 : partS false t 3 2 = (t3, false)
  hy3 : subS false 1099511627776 t3 = (1099511627776 - t3, false)
  hw : mulS false kr (1099511627776 - t3) = (w, false)
  hnw : addS false n w = (n + w, false)
  hmm : mulS false (n + w) d = (mm, false)
  hMm : addS false M mm = (M + mm, false)
  hm : modS false (M + mm) 6908435304716 = ((M + mm) % 6908435304716, false)
  ee : Ab (2 * (e2 * 1099511627776 - E * E)) 1099511627776
  r0 : 0 ≤ r
  ro : r ≤ 1099511627776
  r1 : r * r ≤ (1099511627776 - e2) * 1099511627776
  r2 : (1099511627776 - e2) * 1099511627776 < (r + 1) * (r + 1)
theorem angles_at {A E I Node Peri M d : Int} (A1 : 7146825580544 ≤ A) (A2 : A ≤ 9211859050600) (E1 : 0 ≤ E) (E2 : E ≤ 109951162777) (hI : Ab I 6908435304716) (hN : Ab Node 6908435304716) (hP : Ab Peri 6908435304716) (hM : Ab M 6908435304716) (hd : Ab d 2007708232318976) : Nonempty (Angles A E I Node Peri M d) := by
  have aA : Ab A 9211859050600 := ⟨by omega, A2⟩
  have aE : Ab E 109951162777 := ⟨by omega, E2⟩
  obtain ⟨n1, hn1, q1, b1⟩ := div_x (a := 3271636820114455529) (K := 3271636820114455529) (B := 503328741556070082) ⟨by decide, by decide⟩ A1 A2 (by decide) (by decide) (by decide) (by decide) (by decide) (by decide)
  have n10 : 0 ≤ n1 := by
    apply Classical.byContradiction
    intro g
    have := Int.mul_nonneg (show 0 ≤ -n1 by omega) (show 0 ≤ A by omega)
    rw [Int.neg_mul] at this
    have := q1.lo
    omega
  obtain ⟨n2, hn2, n20, n2b, _, _⟩ := sqrt_x (B := 743919218688939) n10 b1.hi (by decide) (by decide) (by decide) (by decide)
  have an2 : Ab n2 743919218688939 := ⟨by omega, n2b⟩
  obtain ⟨n, hn, _, nb⟩ := div_x (B := 114449110567530) an2 A1 A2 (by decide) (by decide) (by decide) (by decide) (by decide) (by decide)
  obtain ⟨e2, he2, ee, e2b⟩ := mul_x (B := 10995116279) aE aE (by decide) (by decide) (by decide) (by decide)
  have e2l : 0 ≤ e2 := by have := ee.lo; have := sq_nonneg E; omega
  have e2u := e2b.hi
  have hoe : subS false 1099511627776 e2 = (1099511627776 - e2, false) := sub_near (K := 1099511627776) ⟨by decide, by decide⟩ e2b (by decide) (by decide) (by decide)
  obtain ⟨r, hr, r0, ro, r1, r2⟩ := sqrt_x (a := 1099511627776 - e2) (K := 1099511627776) (B := 1099511627776) (by omega) (by omega) (by decide) (by decide) (by decide) (by decide)
  have rl : 1094000256588 ≤ r := by
    apply Classical.byContradiction
    intro g
    have := Int.mul_le_mul (show r + 1 ≤ 1094000256588 by omega) (show r + 1 ≤ 1094000256588 by omega) (by omega) (by decide)
    omega
  have ar : Ab r 1099511627776 := ⟨by omega, ro⟩
  obtain ⟨rr, hrr, qrr, rrb⟩ := mul_x (B := 1099511627776 + 1) ar ar (by decide) (by decide) (by decide) (by decide)
  have rrl : 1088516511493 ≤ rr := by
    have := Int.mul_le_mul rl rl (by decide) r0
    have := qrr.lo
    omega
  obtain ⟨p, hp, qp, pb⟩ := mul_x (B := 9211859050601 + 100) aA rrb (by decide) (by decide) (by decide) (by decide)
  have pl : 7075357324703 ≤ p := by
    have := Int.mul_le_mul A1 rrl (by decide) (by omega)
    have := qp.lo
    omega
  obtain ⟨k1, hk1, _, k1b⟩ := div_x (a := 7012835795048) (K := 7012835795048) (B := 1089795772352) ⟨by decide, by decide⟩ pl pb.hi (by decide) (by decide) (by decide) (by decide) (by decide) (by decide)
  obtain ⟨k2, hk2, _, k2b⟩ := mul_x (B := 1080165771270) k1b k1b (by decide) (by decide) (by decide) (by decide)
  obtain ⟨k3, hk3, _, k3b⟩ := mul_x (a := 1785540935) (K := 1785540935) (B := 1754124425) ⟨by decide, by decide⟩ k2b (by decide) (by decide) (by decide) (by decide)
  obtain ⟨k, hk, _, kb⟩ := mul_x (B := 182588319392) k3b nb (by decide) (by decide) (by decide) (by decide)
  obtain ⟨s, c, hs, hc, sc⟩ := sc_at I (hI.numB (by decide))
  obtain ⟨t, ht, _, tb⟩ := mul_x (B := 1099511627889) sc.sb sc.sb (by decide) (by decide) (by decide) (by decide)
  obtain ⟨kc, hkc, _, kcb⟩ := mul_x (B := 182588319402) kb sc.cb (by decide) (by decide) (by decide) (by decide)
  obtain ⟨kcd, hkcd, _, kcdb⟩ := mul_x (B := 333406271228053) kcb hd (by decide) (by decide) (by decide) (by decide)
  obtain ⟨t5, ht5, u1, u2, _⟩ := partS_near t 5 2 (tb.numB (by decide)) (by rfl) (by rfl) (by decide) (by have := sz_le ⟨tb.lo, tb.hi⟩; rw [show sz 5 = 5 by rfl]; omega)
  have t5b : Ab t5 2748779069723 := by have := tb.lo; have := tb.hi; exact ⟨by omega, by omega⟩
  have y5b : Ab (2199023255552 - t5) 4947802325275 := by have := t5b.lo; have := t5b.hi; exact ⟨by omega, by omega⟩
  obtain ⟨ky, hky, _, kyb⟩ := mul_x (B := 821647437312) kb y5b (by decide) (by decide) (by decide) (by decide)
  obtain ⟨kyd, hkyd, _, kydb⟩ := mul_x (B := 1500328220531713) kyb hd (by decide) (by decide) (by decide) (by decide)
  obtain ⟨kr, hkr, _, krb⟩ := mul_x (B := 182588319393) kb ar (by decide) (by decide) (by decide) (by decide)
  obtain ⟨t3, ht3, v1, v2, _⟩ := partS_near t 3 2 (tb.numB (by decide)) (by rfl) (by rfl) (by decide) (by have := sz_le ⟨tb.lo, tb.hi⟩; rw [show sz 3 = 3 by rfl]; omega)
  have t3b : Ab t3 1649267441834 := by have := tb.lo; have := tb.hi; exact ⟨by omega, by omega⟩
  have y3b : Ab (1099511627776 - t3) 2748779069610 := by have := t3b.lo; have := t3b.hi; exact ⟨by omega, by omega⟩
  obtain ⟨w, hw, _, wb⟩ := mul_x (B := 456470798512) krb y3b (by decide) (by decide) (by decide) (by decide)
  have nw := nb.add wb
  obtain ⟨mm, hmm, _, mmb⟩ := mul_x (B := 209817591574392693) nw hd (by decide) (by decide) (by decide) (by decide)
  have Mm := hM.add mmb
  exact ⟨⟨n1, n2, n, e2, r, rr, p, k1, k2, k3, k, s, c, t, kc, kcd, t5, ky, kyd, kr, t3, w, mm, hn1, hn2, hn, he2, hoe, hr, hrr, hp, hk1, hk2, hk3, hk, hs, hc, sc, ht, hkc, hkcd,
    sub_near hN kcdb (by decide) (by decide) (by decide), (hN.sub kcdb).numB (by decide), ht5, sub_near (K := 2199023255552) ⟨by decide, by decide⟩ t5b (by decide) (by decide) (by decide), hky, hkyd,
    add_near hP kydb (by decide) (by decide) (by decide), (hP.add kydb).numB (by decide), hkr, ht3, sub_near (K := 1099511627776) ⟨by decide, by decide⟩ t3b (by decide) (by decide) (by decide), hw,
    add_near nb wb (by decide) (by decide) (by decide), hmm, add_near hM mmb (by decide) (by decide) (by decide), mod_up (by have := Mm.lo; omega) (by have := Mm.hi; omega) (by decide) (by decide), ee, r0, ro, r1, r2⟩⟩
end Go.Proofs.YtoadcnhcfodkgaaGreatDoor
