/-
  The model's numbers at a right tick, and the sums that rounded steps work, for the seat YtoadcnhcfodkgaaGreatDoor. No Go text in sight.
-/
import Derived.Test.YtoadcnhcfodkgaaGreatDoorFldD
import Derived.Test.YtoadcnhcfodkgaaGreatDoorFldE
namespace Go.Proofs.YtoadcnhcfodkgaaGreatDoor

theorem fG_bd (n m : Nat) : Ab (fG n m) 32400000000000 := by unfold fG; split <;> exact ⟨by decide, by decide⟩
theorem fH_bd (n m : Nat) : Ab (fH n m) 32400000000000 := by unfold fH; split <;> exact ⟨by decide, by decide⟩
theorem fGy_bd (n m : Nat) : Ab (fGy n m) 40000000000 := by unfold fGy; split <;> exact ⟨by decide, by decide⟩
theorem fHy_bd (n m : Nat) : Ab (fHy n m) 40000000000 := by unfold fHy; split <;> exact ⟨by decide, by decide⟩
/-- g and h, y years behind tick 0. -/
def gS (y : Int) (n m : Nat) : Int := if n ≤ 2 then fG n m + (mulS false y (fGy n m)).1 else fG n m
def hS (y : Int) (n m : Nat) : Int := if n ≤ 2 then fH n m + (mulS false y (fHy n m)).1 else fH n m
theorem year_at {y a : Int} (y0 : 0 ≤ y) (y1 : y ≤ 5497558138880) (ha : Ab a 40000000000) : ∃ x, mulS false y a = (x, false) ∧ min 0 (5 * a) ≤ x ∧ x ≤ max 0 (5 * a) := by
  obtain ⟨x, e, r, _⟩ := mul_x (B := 200000000001) (show Ab y 5497558138880 from ⟨by omega, y1⟩) ha (by decide) (by decide) (by decide) (by decide)
  refine ⟨x, e, ?_, ?_⟩
  · by_cases h : 0 ≤ a
    · have := Int.mul_nonneg y0 h
      have := r.lo
      omega
    · have := Int.mul_le_mul_of_nonpos_right y1 (show a ≤ 0 by omega)
      have := r.lo
      omega
  · by_cases h : 0 ≤ a
    · have := Int.mul_le_mul_of_nonneg_right y1 h
      have := r.hi
      omega
    · have := Int.mul_nonneg y0 (show 0 ≤ -a by omega)
      rw [Int.mul_neg] at this
      have := r.hi
      omega
theorem gS_in {y : Int} (y0 : 0 ≤ y) (y1 : y ≤ 5497558138880) (n m : Nat) : In (gI n m) (gS y n m) := by
  obtain ⟨x, e, l, u⟩ := year_at y0 y1 (fGy_bd n m)
  unfold gI gS
  split
  · rw [e]; exact in_mk (by show fG n m + min 0 _ ≤ fG n m + x; omega) (by show fG n m + x ≤ fG n m + max 0 _; omega)
  · exact pt_in _
theorem hS_in {y : Int} (y0 : 0 ≤ y) (y1 : y ≤ 5497558138880) (n m : Nat) : In (hI n m) (hS y n m) := by
  obtain ⟨x, e, l, u⟩ := year_at y0 y1 (fHy_bd n m)
  unfold hI hS
  split
  · rw [e]; exact in_mk (by show fH n m + min 0 _ ≤ fH n m + x; omega) (by show fH n m + x ≤ fH n m + max 0 _; omega)
  · exact pt_in _
theorem gS_bd {y : Int} (y0 : 0 ≤ y) (y1 : y ≤ 5497558138880) (n m : Nat) : Ab (gS y n m) 35184372088832 := by
  obtain ⟨x, e, l, u⟩ := year_at y0 y1 (fGy_bd n m)
  have a := fGy_bd n m; have b := fG_bd n m
  have := a.lo; have := a.hi; have := b.lo; have := b.hi
  unfold gS
  split
  · rw [e]; exact ⟨by show _ ≤ fG n m + x; omega, by show fG n m + x ≤ _; omega⟩
  · exact ⟨by omega, by omega⟩
theorem hS_bd {y : Int} (y0 : 0 ≤ y) (y1 : y ≤ 5497558138880) (n m : Nat) : Ab (hS y n m) 35184372088832 := by
  obtain ⟨x, e, l, u⟩ := year_at y0 y1 (fHy_bd n m)
  have a := fHy_bd n m; have b := fH_bd n m
  have := a.lo; have := a.hi; have := b.lo; have := b.hi
  unfold hS
  split
  · rw [e]; exact ⟨by show _ ≤ fH n m + x; omega, by show fH n m + x ≤ _; omega⟩
  · exact ⟨by omega, by omega⟩
/-- What degree n and order m add to up, south and east. -/
def termS (bad : Bool) (n m t C S g h : Int) (x st : V3) : V3 × Bool :=
  let r1 := mulS bad g C; let r2 := mulS r1.2 h S; let r3 := addS r2.2 r1.1 r2.1
  let r4 := mulS r3.2 g S; let r5 := mulS r4.2 h C; let r6 := subS r5.2 r4.1 r5.1
  let r7 := mulS r6.2 r3.1 x.1; let r8 := mulS r7.2 t r7.1; let r9 := partS r8.2 r8.1 (n + 1) 1; let r10 := addS r9.2 st.1 r9.1
  let r11 := mulS r10.2 r3.1 x.2.1; let r12 := mulS r11.2 t r11.1; let r13 := subS r12.2 st.2.1 r12.1
  if 0 < m then
    let r14 := mulS r13.2 r6.1 x.2.2; let r15 := mulS r14.2 t r14.1; let r16 := partS r15.2 r15.1 m 1; let r17 := addS r16.2 st.2.2 r16.1
    ((r10.1, r13.1, r17.1), r17.2)
  else ((r10.1, r13.1, st.2.2), r13.2)
/-- t (e x) of rounded steps, and as it would be. -/
theorem three {t e E x : Int} (t0 : 0 ≤ t) (t1 : t ≤ 2199023255552) (xb : Ab x 17592186044416) (eb : Ab e 70400000000002) (he : Ab (e * 1099511627776 - E) 1099511627776) :
    ∃ y z, mulS false e x = (y, false) ∧ mulS false t y = (z, false) ∧ Ab z 2252800000000070 ∧ Ab (z * 1329227995784915872903807060280344576 - t * x * E) 45193751856687139678729440049531715584 := by
  obtain ⟨y, h1, q1, b1⟩ := mul_x (B := 1126400000000033) eb xb (by decide) (by decide) (by decide) (by decide)
  have tb : Ab t 2199023255552 := ⟨by omega, t1⟩
  obtain ⟨z, h2, q2, b2⟩ := mul_x (B := 2252800000000070) tb b1 (by decide) (by decide) (by decide) (by decide)
  refine ⟨y, z, h1, h2, b2, ?_⟩
  have k : 2 * (z * 1329227995784915872903807060280344576 - t * x * E) = 1208925819614629174706176 * (2 * (z * 1099511627776 - t * y)) + 1099511627776 * (t * (2 * (y * 1099511627776 - e * x))) + 2 * (t * (x * (e * 1099511627776 - E))) := by grind
  have a := tb.mul q1
  have b := tb.mul (xb.mul he)
  have := q2.lo; have := q2.hi; have := a.lo; have := a.hi; have := b.lo; have := b.hi
  generalize t * (2 * (y * 1099511627776 - e * x)) = A at *
  generalize t * (x * (e * 1099511627776 - E)) = B at *
  generalize 2 * (z * 1099511627776 - t * y) = D at *
  generalize z * 1329227995784915872903807060280344576 - t * x * E = Z at *
  exact ⟨by omega, by omega⟩
/-- A whole number of times. -/
theorem times_near {z k : Int} (hz : Ab z 2252800000000070) (k0 : 0 ≤ k) (k1 : k ≤ 7) : partS false z k 1 = (z * k, false) := by
  obtain ⟨m, e, h1, h2, _⟩ := partS_near z k 1 (hz.numB (by decide)) (numB_of ⟨by omega, by omega⟩) (by rfl) (by decide) (by
    have a := sz_le ⟨hz.lo, hz.hi⟩
    have b : sz k ≤ 7 := sz_le ⟨by omega, k1⟩
    have := Int.mul_le_mul a b (le_sz k).2.2 (by decide)
    omega)
  rw [e]
  have : m = z * k := by omega
  rw [this]
structure St3 (x : V3) (K : Int) : Prop where
  a : Ab x.1 K
  b : Ab x.2.1 K
  c : Ab x.2.2 K
theorem term_at {n m t C S g h K : Int} {x st : V3} (n0 : 0 ≤ n) (n1 : n ≤ 6) (m0 : 0 ≤ m) (m1 : m ≤ 6) (t0 : 0 ≤ t) (t1 : t ≤ 2199023255552) (Cb : Ab C 1100000000000) (Sb : Ab S 1100000000000) (gb : Ab g 35184372088832) (hb : Ab h 35184372088832) (sx : Sm3 x) (ss : St3 st K) (hK : K ≤ 1152921504606846976) (K0 : 0 ≤ K) :
    ∃ s', termS false n m t C S g h x st = (s', false) ∧ St3 s' (K + 15769600000000490) ∧
      Ab (1329227995784915872903807060280344576 * (s'.1 - st.1) - (n + 1) * (t * x.1) * (g * C + h * S)) 340282366920938463463374607431768211456 ∧
      Ab (1329227995784915872903807060280344576 * (st.2.1 - s'.2.1) - t * x.2.1 * (g * C + h * S)) 340282366920938463463374607431768211456 ∧
      Ab (1329227995784915872903807060280344576 * (s'.2.2 - st.2.2) - m * (t * x.2.2) * (g * S - h * C)) 340282366920938463463374607431768211456 := by
  obtain ⟨v1, h1, q1, b1⟩ := mul_x (B := 35200000000001) gb Cb (by decide) (by decide) (by decide) (by decide)
  obtain ⟨v2, h2, q2, b2⟩ := mul_x (B := 35200000000001) hb Sb (by decide) (by decide) (by decide) (by decide)
  have h3 := add_near b1 b2 (by decide) (by decide) (by decide)
  obtain ⟨v4, h4, q4, b4⟩ := mul_x (B := 35200000000001) gb Sb (by decide) (by decide) (by decide) (by decide)
  obtain ⟨v5, h5, q5, b5⟩ := mul_x (B := 35200000000001) hb Cb (by decide) (by decide) (by decide) (by decide)
  have h6 := sub_near b4 b5 (by decide) (by decide) (by decide)
  have eE : Ab ((v1 + v2) * 1099511627776 - (g * C + h * S)) 1099511627776 := by
    have := q1.lo; have := q1.hi; have := q2.lo; have := q2.hi
    exact ⟨by omega, by omega⟩
  have oE : Ab ((v4 - v5) * 1099511627776 - (g * S - h * C)) 1099511627776 := by
    have := q4.lo; have := q4.hi; have := q5.lo; have := q5.hi
    exact ⟨by omega, by omega⟩
  obtain ⟨y1, z1, i1, j1, zb1, w1⟩ := three t0 t1 sx.p (b1.add b2) eE
  obtain ⟨y2, z2, i2, j2, zb2, w2⟩ := three t0 t1 sx.d (b1.add b2) eE
  obtain ⟨y3, z3, i3, j3, zb3, w3⟩ := three t0 t1 sx.q (b4.sub b5) oE
  have p1 := times_near (k := n + 1) zb1 (by omega) (by omega)
  have p3 := times_near (k := m) zb3 (by omega) (by omega)
  have c1 : Ab (z1 * (n + 1)) 15769600000000490 := zb1.mul (L := 7) ⟨by omega, by omega⟩
  have c3 : Ab (z3 * m) 15769600000000490 := zb3.mul (L := 7) ⟨by omega, by omega⟩
  have a1 := add_near ss.a c1 (by omega) (by omega) (by decide)
  have a2 := sub_near ss.b zb2 (by omega) (by omega) (by decide)
  have a3 := add_near ss.c c3 (by omega) (by omega) (by decide)
  have f1 : Ab (1329227995784915872903807060280344576 * (st.1 + z1 * (n + 1) - st.1) - (n + 1) * (t * x.1) * (g * C + h * S)) 340282366920938463463374607431768211456 := by
    have k := w1.mul (y := n + 1) (L := 7) ⟨by omega, by omega⟩
    have e : 1329227995784915872903807060280344576 * (st.1 + z1 * (n + 1) - st.1) - (n + 1) * (t * x.1) * (g * C + h * S) = (z1 * 1329227995784915872903807060280344576 - t * x.1 * (g * C + h * S)) * (n + 1) := by grind
    rw [e]
    exact k.le (by decide)
  have f2 : Ab (1329227995784915872903807060280344576 * (st.2.1 - (st.2.1 - z2)) - t * x.2.1 * (g * C + h * S)) 340282366920938463463374607431768211456 := by
    have e : 1329227995784915872903807060280344576 * (st.2.1 - (st.2.1 - z2)) - t * x.2.1 * (g * C + h * S) = z2 * 1329227995784915872903807060280344576 - t * x.2.1 * (g * C + h * S) := by omega
    rw [e]
    exact w2.le (by decide)
  by_cases hm : 0 < m
  · refine ⟨(st.1 + z1 * (n + 1), st.2.1 - z2, st.2.2 + z3 * m), ?_, ⟨ss.a.add c1, (ss.b.sub zb2).le (by omega), ss.c.add c3⟩, f1, f2, ?_⟩
    · unfold termS
      simp only [h1, h2, h3, h4, h5, h6, i1, j1, p1, a1, i2, j2, a2, if_pos hm, i3, j3, p3, a3]
    · have k := w3.mul (y := m) (L := 7) ⟨by omega, by omega⟩
      have e : 1329227995784915872903807060280344576 * (st.2.2 + z3 * m - st.2.2) - m * (t * x.2.2) * (g * S - h * C) = (z3 * 1329227995784915872903807060280344576 - t * x.2.2 * (g * S - h * C)) * m := by grind
      show Ab (1329227995784915872903807060280344576 * (st.2.2 + z3 * m - st.2.2) - m * (t * x.2.2) * (g * S - h * C)) _
      rw [e]
      exact k.le (by decide)
  · obtain rfl : m = 0 := by omega
    refine ⟨(st.1 + z1 * (n + 1), st.2.1 - z2, st.2.2), ?_, ⟨ss.a.add c1, (ss.b.sub zb2).le (by omega), ss.c.le (by omega)⟩, f1, f2, ?_⟩
    · unfold termS
      simp only [h1, h2, h3, h4, h5, h6, i1, j1, p1, a1, i2, j2, a2, if_neg hm]
    · have e : 1329227995784915872903807060280344576 * (st.2.2 - st.2.2) - 0 * (t * x.2.2) * (g * S - h * C) = 0 := by grind
      show Ab (1329227995784915872903807060280344576 * (st.2.2 - st.2.2) - 0 * (t * x.2.2) * (g * S - h * C)) _
      rw [e]
      exact ⟨by decide, by decide⟩
end Go.Proofs.YtoadcnhcfodkgaaGreatDoor
