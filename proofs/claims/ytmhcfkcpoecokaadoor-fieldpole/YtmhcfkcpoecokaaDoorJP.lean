/-
  The field near the Earth's axis, for the seat YtmhcfkcpoecokaaDoor. No Go text in sight.
  Near the Earth's axis whatever is near is near (FieldPole), for the seat YtmhcfkcpoecokaaDoor. No Go text in sight.
  The poles, cut into boxes that are well, and FieldPole's closeness, for the seat YtmhcfkcpoecokaaDoor. No Go text in sight. (Made by program.)
-/
import Derived.Test.YtmhcfkcpoecokaaDoorJD
namespace Go.Proofs.YtmhcfkcpoecokaaDoor

theorem sm_but {f F : Nat → Int} {n j : Nat} (h : ∀ k, k < n → Ab (f k) (F k)) (hj : j < n) : Ab (sm f n - f j) (sm F n - F j) := by
  have e (g : Nat → Int) : sm g n - g j = sm (fun k => if k = j then 0 else g k) n := by
    have a := sm_add (fun k => if k = j then 0 else g k) (fun k => if k = j then g j else 0) n
    rw [sm_one j (g j) hj, sm_eq (g := g) (fun k _ => by
      show (if k = j then 0 else g k) + (if k = j then g j else 0) = g k
      split
      · rename_i c; rw [c]; omega
      · omega)] at a
    omega
  rw [e f, e F]
  apply sm_ab
  intro k hk
  show Ab (if k = j then 0 else f k) (if k = j then 0 else F k)
  split
  · exact ⟨by decide, by decide⟩
  · exact h k hk
/-- Up, south and east as x, y and z: each step's rounding. -/
theorem vec_rel {w : V3} {c s u v : Int} (B : St3 w 756940800000023520) (cb : Ab c 1099511627776) (sb : Ab s 1099511627776) (ub : Ab u 1099511627776) (vb : Ab v 1099511627776) :
    ∃ x a, vecS false w c s u v = (x, false) ∧ Ab (1099511627776 * a - (w.1 * s + w.2.1 * c)) 1099511627776 ∧ Ab (1099511627776 * x.1 - (a * u - w.2.2 * v)) 1099511627776 ∧ Ab (1099511627776 * x.2.1 - (a * v + w.2.2 * u)) 1099511627776 ∧ Ab (1099511627776 * x.2.2 - (w.1 * c - w.2.1 * s)) 1099511627776 := by
  obtain ⟨v1, h1, q1, b1⟩ := mul_x (B := 756940800000023521) B.a sb (by decide) (by decide) (by decide) (by decide)
  obtain ⟨v2, h2, q2, b2⟩ := mul_x (B := 756940800000023521) B.b cb (by decide) (by decide) (by decide) (by decide)
  have h3 := add_near b1 b2 (by decide) (by decide) (by decide)
  have b3 := b1.add b2
  obtain ⟨v4, h4, q4, b4⟩ := mul_x (B := 1513881600000047043) b3 ub (by decide) (by decide) (by decide) (by decide)
  obtain ⟨v5, h5, q5, b5⟩ := mul_x (B := 756940800000023521) B.c vb (by decide) (by decide) (by decide) (by decide)
  have h6 := sub_near b4 b5 (by decide) (by decide) (by decide)
  obtain ⟨v7, h7, q7, b7⟩ := mul_x (B := 1513881600000047043) b3 vb (by decide) (by decide) (by decide) (by decide)
  obtain ⟨v8, h8, q8, b8⟩ := mul_x (B := 756940800000023521) B.c ub (by decide) (by decide) (by decide) (by decide)
  have h9 := add_near b7 b8 (by decide) (by decide) (by decide)
  obtain ⟨v10, h10, q10, b10⟩ := mul_x (B := 756940800000023521) B.a cb (by decide) (by decide) (by decide) (by decide)
  obtain ⟨v11, h11, q11, b11⟩ := mul_x (B := 756940800000023521) B.b sb (by decide) (by decide) (by decide) (by decide)
  have h12 := sub_near b10 b11 (by decide) (by decide) (by decide)
  refine ⟨(v4 - v5, v7 + v8, v10 - v11), v1 + v2, by unfold vecS; simp only [h1, h2, h3, h4, h5, h6, h7, h8, h9, h10, h11, h12], ?_, ?_, ?_, ?_⟩
  · have := q1.lo; have := q1.hi; have := q2.lo; have := q2.hi
    exact ⟨by omega, by omega⟩
  · have := q4.lo; have := q4.hi; have := q5.lo; have := q5.hi
    exact ⟨by show _ ≤ 1099511627776 * (v4 - v5) - _; omega, by show 1099511627776 * (v4 - v5) - _ ≤ _; omega⟩
  · have := q7.lo; have := q7.hi; have := q8.lo; have := q8.hi
    exact ⟨by show _ ≤ 1099511627776 * (v7 + v8) - _; omega, by show 1099511627776 * (v7 + v8) - _ ≤ _; omega⟩
  · have := q10.lo; have := q10.hi; have := q11.lo; have := q11.hi
    exact ⟨by show _ ≤ 1099511627776 * (v10 - v11) - _; omega, by show 1099511627776 * (v10 - v11) - _ ≤ _; omega⟩
section
variable (C S Q : Iv)
def pU : Int := most (uA C S Q) (uB C S Q)
def pV : Int := most (sA C S Q) (sB C S Q)
def pE : Int := most (eA C S Q) (eB C S Q)
def pG : Iv := isub (imul C (sA C S Q 1)) (eA C S Q 1)
def pH : Iv := isub (imul C (sB C S Q 1)) (eB C S Q 1)
/-- How far x and y are from what they are right above the pole, at most. -/
def pEps : Int := mag (pG C S Q) + mag (pH C S Q) + ce (pU C S Q * S.2) + (pV C S Q - hyp (mag (sA C S Q 1)) (mag (sB C S Q 1))) + (pE C S Q - hyp (mag (eA C S Q 1)) (mag (eB C S Q 1))) + 4294967296
def pX : Iv := (-(eA C S Q 1).2 - pEps C S Q, -(eA C S Q 1).1 + pEps C S Q)
def pY : Iv := (-(eB C S Q 1).2 - pEps C S Q, -(eB C S Q 1).1 + pEps C S Q)
/-- Up. -/
def pP : Iv := ((uA C S Q 0).1 - (pU C S Q - hyp (mag (uA C S Q 0)) (mag (uB C S Q 0))) - 4294967296, (uA C S Q 0).2 + (pU C S Q - hyp (mag (uA C S Q 0)) (mag (uB C S Q 0))) + 4294967296)
def pZ : Iv := ((imul C (pP C S Q)).1 - ce ((pV C S Q + 2147483648) * S.2) - 2, (imul C (pP C S Q)).2 + ce ((pV C S Q + 2147483648) * S.2) + 2)
def poleOK : Bool :=
  rowsOK C S && mostOK (uA C S Q) (uB C S Q) && mostOK (sA C S Q) (sB C S Q) && mostOK (eA C S Q) (eB C S Q) &&
  decide (0 ≤ S.1) && decide (S.2 ≤ 8589934592) && decide (0 ≤ S.2) && decide (pU C S Q ≤ 97856534872064) && decide (pV C S Q ≤ 97856534872064) && decide (pE C S Q ≤ 97856534872064) && decide (0 ≤ pU C S Q) && decide (0 ≤ pV C S Q) &&
  decide (pV C S Q - hyp (mag (sA C S Q 1)) (mag (sB C S Q 1)) ≤ 4398046511104) && decide (pE C S Q - hyp (mag (eA C S Q 1)) (mag (eB C S Q 1)) ≤ 4398046511104) && decide (mag (eA C S Q 1) ≤ 35184372088832) && decide (mag (eB C S Q 1) ≤ 35184372088832) &&
  decide ((pX C S Q).2 - (pX C S Q).1 ≤ 8796093022208) && decide ((pY C S Q).2 - (pY C S Q).1 ≤ 8796093022208) && decide ((pZ C S Q).2 - (pZ C S Q).1 ≤ 8796093022208) &&
  (decide (10995116277761 ≤ (pZ C S Q).1) || decide ((pZ C S Q).2 ≤ -10995116277761))
end
/-- Near the axis, one part of the field. -/
theorem axis_x {x a u v up so ea s c GS HS GE HE SO EA εG εH R1 R2 Um gm : Int} (A1 : Ab (1099511627776 * a - (up * s + so * c)) 1099511627776) (X1 : Ab (1099511627776 * x - (a * u - ea * v)) 1099511627776)
    (ub : Ab u 1099511627776) (vb : Ab v 1099511627776) (cb : Ab c 1099511627776) (uv : Ab (u * u + v * v - 1208925819614629174706176) 4611686018427387904)
    (dG : Ab (c * GS - 1099511627776 * GE) (εG * 1329227995784915872903807060280344576)) (dH : Ab (c * HS - 1099511627776 * HE) (εH * 1329227995784915872903807060280344576))
    (r1 : Ab (SO - (GS * u + HS * v)) (R1 * (1208925819614629174706176 * 1099528404992))) (r2 : Ab (EA - (GE * v - HE * u)) (R2 * (1208925819614629174706176 * 1099528404992)))
    (h1 : Ab (1329227995784915872903807060280344576 * -so - SO) 16333553612205046246241981156724874149888) (h2 : Ab (1329227995784915872903807060280344576 * ea - EA) 16333553612205046246241981156724874149888)
    (us : Ab (up * s) (Um * 1099511627776)) (gb : Ab GE (gm * 1208925819614629174706176)) (g1 : gm ≤ 35184372088832) (k1 : R1 ≤ 4398046511104) (k2 : R2 ≤ 4398046511104) :
    Ab (1606938044258990275541962092341162602522202993782792835301376 * x + 1329227995784915872903807060280344576 * GE) (1606938044258990275541962092341162602522202993782792835301376 * (εG + εH + Um + R1 + R2 + 300000000)) := by
  have e : 1606938044258990275541962092341162602522202993782792835301376 * x + 1329227995784915872903807060280344576 * GE = 1461501637330902918203684832716283019655932542976 * (1099511627776 * x - (a * u - ea * v)) + 1329227995784915872903807060280344576 * (u * (1099511627776 * a - (up * s + so * c))) + 1329227995784915872903807060280344576 * (u * (up * s)) - 1099511627776 * (GE * (u * u + v * v - 1208925819614629174706176)) - (c * GS - 1099511627776 * GE) * (u * u) - (c * HS - 1099511627776 * HE) * (u * v)
      - u * c * ((SO - (GS * u + HS * v)) + (1329227995784915872903807060280344576 * -so - SO)) - 1099511627776 * (v * ((EA - (GE * v - HE * u)) + (1329227995784915872903807060280344576 * ea - EA))) := by grind
  rw [e]
  have t2 := ub.mul A1
  have t3 := ub.mul us
  have t4 := gb.mul uv
  have t5 := dG.mul (ub.mul ub)
  have t6 := dH.mul (ub.mul vb)
  have t7 := (ub.mul cb).mul (r1.add h1)
  have t8 := vb.mul (r2.add h2)
  have l1 := X1.lo; have m1 := X1.hi; have l2 := t2.lo; have m2 := t2.hi; have l3 := t3.lo; have m3 := t3.hi; have l4 := t4.lo; have m4 := t4.hi; have l5 := t5.lo; have m5 := t5.hi; have l6 := t6.lo; have m6 := t6.hi; have l7 := t7.lo; have m7 := t7.hi; have l8 := t8.lo; have m8 := t8.hi
  generalize 1099511627776 * x - (a * u - ea * v) = Z1 at *
  generalize u * (1099511627776 * a - (up * s + so * c)) = Z2 at *
  generalize u * (up * s) = Z3 at *
  generalize GE * (u * u + v * v - 1208925819614629174706176) = Z4 at *
  generalize (c * GS - 1099511627776 * GE) * (u * u) = Z5 at *
  generalize (c * HS - 1099511627776 * HE) * (u * v) = Z6 at *
  generalize u * c * ((SO - (GS * u + HS * v)) + (1329227995784915872903807060280344576 * -so - SO)) = Z7 at *
  generalize v * ((EA - (GE * v - HE * u)) + (1329227995784915872903807060280344576 * ea - EA)) = Z8 at *
  exact ⟨by omega, by omega⟩
end Go.Proofs.YtmhcfkcpoecokaaDoor
namespace Go.Proofs.YtmhcfkcpoecokaaDoor

theorem mul_one_at {a : Int} (h : Ab a 1099511627776) : mulS false 1099511627776 a = (a, false) := by
  obtain ⟨m, e, q, _⟩ := mul_x (a := 1099511627776) (K := 1099511627776) (B := 1099511627777) ⟨by decide, by decide⟩ h (by decide) (by decide) (by decide) (by decide)
  have := q.lo; have := q.hi
  rw [e, show m = a by omega]
theorem mul_nil_at {a : Int} (h : Ab a 1099511627776) : mulS false 0 a = (0, false) := by
  obtain ⟨m, e, q, _⟩ := mul_x (a := 0) (K := 0) (B := 1) ⟨by decide, by decide⟩ h (by decide) (by decide) (by decide) (by decide)
  have := q.lo; have := q.hi
  rw [e, show m = 0 by omega]
theorem wv_one {u v : Int} (L : Lon u v) : wv u v 1 = (u, v) := by
  show (waveS false 1099511627776 0 u v).1 = (u, v)
  unfold waveS
  have h3 := sub_near (a := u) (b := 0) (L := 0) L.ub ⟨by decide, by decide⟩ (by decide) (by decide) (by decide)
  have h6 := add_near (a := 0) (b := v) (K := 0) ⟨by decide, by decide⟩ L.vb (by decide) (by decide) (by decide)
  rw [Int.sub_zero] at h3
  rw [Int.zero_add] at h6
  simp only [mul_one_at L.ub, mul_nil_at L.vb, h3, mul_nil_at L.ub, mul_one_at L.vb, h6]
theorem most_but {A B : Nat → Iv} {f : Nat → Int} (h : ∀ m, m < 7 → Ab (f m) (hyp (mag (A m)) (mag (B m)) * (K80 * 1099528404992))) {j : Nat} (hj : j < 7) : Ab (sm f 7 - f j) ((most A B - hyp (mag (A j)) (mag (B j))) * (K80 * 1099528404992)) := by
  have a := sm_but h hj
  rw [sm_eq (f := fun m => hyp (mag (A m)) (mag (B m)) * (K80 * 1099528404992)) (g := fun m => (K80 * 1099528404992) * hyp (mag (A m)) (mag (B m))) (fun k _ => Int.mul_comm _ _), sm_mul] at a
  rw [Int.sub_mul, Int.mul_comm (most A B)]
  exact a
theorem pole_at {p : V3} {y r : Int} (E : Earth p y r) {C S Q : Iv} (iC : In C E.c) (iS : In S E.s) (iQ : In Q E.q) (ok : poleOK C S Q = true) : In (pX C S Q) E.b.1 ∧ In (pY C S Q) E.b.2.1 ∧ In (pZ C S Q) E.b.2.2 := by
  unfold poleOK at ok
  simp only [Bool.and_eq_true, decide_eq_true_eq] at ok
  obtain ⟨⟨⟨⟨⟨⟨⟨⟨⟨⟨⟨⟨⟨⟨⟨⟨⟨⟨⟨o1, o2⟩, o3⟩, o4⟩, s1⟩, s2⟩, s3⟩, u1⟩, v1⟩, e1⟩, u0⟩, v0⟩, k1⟩, k2⟩, g1⟩, g2⟩, w1⟩, w2⟩, w3⟩, _⟩ := ok
  have L := lies_at iC iS iQ (E.cb.le (by decide)) (E.sb.le (by decide)) E.Z.L.q0 E.Z.L.q1 o1
  have Gg := gS_in E.Z.y0 E.Z.y1
  have Gh := hS_in E.Z.y0 E.Z.y1
  have cs (m : Nat) (hm : m < 7) : (wv E.u E.v m).1 * (wv E.u E.v m).1 + (wv E.u E.v m).2 * (wv E.u E.v m).2 ≤ 1099528404992 * 1099528404992 := wv_bd E.Z.W m hm
  have cs' (m : Nat) (hm : m < 7) : (wv E.u E.v m).2 * (wv E.u E.v m).2 + -(wv E.u E.v m).1 * -(wv E.u E.v m).1 ≤ 1099528404992 * 1099528404992 := by
    have := cs m hm
    rw [Int.neg_mul_neg]; omega
  have one := wv_one E.Z.W
  have mu := most_get (C := fun m => (wv E.u E.v m).1) (S := fun m => (wv E.u E.v m).2) o2 (uA_in L Gg) (uB_in L Gh) cs
  have ms := most_get (C := fun m => (wv E.u E.v m).1) (S := fun m => (wv E.u E.v m).2) o3 (sA_in L Gg) (sB_in L Gh) cs
  have me := most_get (C := fun m => (wv E.u E.v m).2) (S := fun m => -(wv E.u E.v m).1) o4 (eA_in L Gg) (eB_in L Gh) cs'
  have U := by_order (wU E.c E.s E.q) (fun n m => gS y (n + 1) m) (fun n m => hS y (n + 1) m) (fun m => (wv E.u E.v m).1) (fun m => (wv E.u E.v m).2) 6 7
  have V := by_order (wS E.c E.s E.q) (fun n m => gS y (n + 1) m) (fun n m => hS y (n + 1) m) (fun m => (wv E.u E.v m).1) (fun m => (wv E.u E.v m).2) 6 7
  have W := by_order (wE E.c E.s E.q) (fun n m => gS y (n + 1) m) (fun n m => hS y (n + 1) m) (fun m => (wv E.u E.v m).2) (fun m => -(wv E.u E.v m).1) 6 7
  have W' : sm (fun n => sm (fun m => wE E.c E.s E.q n m * (gS y (n + 1) m * (wv E.u E.v m).2 - hS y (n + 1) m * (wv E.u E.v m).1)) 7) 6 = sm (fun n => sm (fun m => wE E.c E.s E.q n m * (gS y (n + 1) m * (wv E.u E.v m).2 + hS y (n + 1) m * -(wv E.u E.v m).1)) 7) 6 := by
    apply sm_eq; intro n _; apply sm_eq; intro m _
    rw [Int.mul_neg, Int.sub_eq_add_neg]
  obtain ⟨st, q1, q2, q3⟩ := out_at E.Z 6 (by decide)
  obtain ⟨x, a, ev, A1, X1, Y1, Z1⟩ := vec_rel (w := outS E.c E.s E.q y E.u E.v 6) ⟨st.a.le (by decide), st.b.le (by decide), st.c.le (by decide)⟩ E.cb E.sb E.Z.W.ub E.Z.W.vb
  have hb := E.hb
  rw [ev] at hb
  have eb : x = E.b := congrArg Prod.fst hb
  rw [← eb]
  clear eb hb ev
  have q1' : Ab (1329227995784915872903807060280344576 * (outS E.c E.s E.q y E.u E.v 6).1 - sm (fun n => sm (fun m => wU E.c E.s E.q n m * (gS y (n + 1) m * (wv E.u E.v m).1 + hS y (n + 1) m * (wv E.u E.v m).2)) 7) 6) 16333553612205046246241981156724874149888 := q1
  have q2' : Ab (1329227995784915872903807060280344576 * -(outS E.c E.s E.q y E.u E.v 6).2.1 - sm (fun n => sm (fun m => wS E.c E.s E.q n m * (gS y (n + 1) m * (wv E.u E.v m).1 + hS y (n + 1) m * (wv E.u E.v m).2)) 7) 6) 16333553612205046246241981156724874149888 := q2
  have q3' : Ab (1329227995784915872903807060280344576 * (outS E.c E.s E.q y E.u E.v 6).2.2 - sm (fun n => sm (fun m => wE E.c E.s E.q n m * (gS y (n + 1) m * (wv E.u E.v m).2 - hS y (n + 1) m * (wv E.u E.v m).1)) 7) 6) 16333553612205046246241981156724874149888 := q3
  rw [U] at q1'
  rw [V] at q2'
  rw [W', W] at q3'
  clear q1 q2 q3 U V W W'
  have upb := worked q1' mu.1 u1
  have sob := (worked q2' ms.1 v1).neg
  rw [Int.neg_neg] at sob
  have b0 := most_but mu.2 (j := 0) (by decide)
  have b1 := most_but ms.2 (j := 1) (by decide)
  have b2 := most_but me.2 (j := 1) (by decide)
  have iu0 := uA_in L Gg 0
  have is1 := sA_in L Gg 1
  have js1 := sB_in L Gh 1
  have ie1 := eA_in L Gg 1
  have je1 := eB_in L Gh 1
  simp only [one] at b1 b2
  have z0 : wv E.u E.v 0 = (1099511627776, 0) := rfl
  simp only [z0] at b0
  have iS1 := iS.lo; have iS2 := iS.hi
  have s0 := E.s0
  have iCc := iC
  have cb := E.cb; have ub := E.Z.W.ub; have vb := E.Z.W.vb
  have uvh := E.Z.W.hi; have uvl := E.uv
  generalize sm (fun m => sm (fun n => wU E.c E.s E.q n m * gS y (n + 1) m) 6 * (wv E.u E.v m).1 + sm (fun n => wU E.c E.s E.q n m * hS y (n + 1) m) 6 * (wv E.u E.v m).2) 7 = UP at *
  generalize sm (fun m => sm (fun n => wS E.c E.s E.q n m * gS y (n + 1) m) 6 * (wv E.u E.v m).1 + sm (fun n => wS E.c E.s E.q n m * hS y (n + 1) m) 6 * (wv E.u E.v m).2) 7 = SO at *
  generalize sm (fun m => sm (fun n => wE E.c E.s E.q n m * gS y (n + 1) m) 6 * (wv E.u E.v m).2 + sm (fun n => wE E.c E.s E.q n m * hS y (n + 1) m) 6 * -(wv E.u E.v m).1) 7 = EA at *
  generalize sm (fun n => wU E.c E.s E.q n 0 * gS y (n + 1) 0) 6 = G0 at *
  generalize sm (fun n => wU E.c E.s E.q n 0 * hS y (n + 1) 0) 6 = H0 at *
  generalize sm (fun n => wS E.c E.s E.q n 1 * gS y (n + 1) 1) 6 = GS at *
  generalize sm (fun n => wS E.c E.s E.q n 1 * hS y (n + 1) 1) 6 = HS at *
  generalize sm (fun n => wE E.c E.s E.q n 1 * gS y (n + 1) 1) 6 = GE at *
  generalize sm (fun n => wE E.c E.s E.q n 1 * hS y (n + 1) 1) 6 = HE at *
  generalize (outS E.c E.s E.q y E.u E.v 6).1 = up at *
  generalize (outS E.c E.s E.q y E.u E.v 6).2.1 = so at *
  generalize (outS E.c E.s E.q y E.u E.v 6).2.2 = ea at *
  generalize E.c = c at *
  generalize E.s = s at *
  generalize E.u = u at *
  generalize E.v = v at *
  have uv : Ab (u * u + v * v - 1208925819614629174706176) 4611686018427387904 := ⟨by omega, by omega⟩
  have sb : Ab s S.2 := ⟨by omega, by omega⟩
  have us : Ab (up * s) ((ce (pU C S Q * S.2) + 16777216) * 1099511627776) := by
    have h := upb.mul sb
    have c1 := le_ce (pU C S Q * S.2)
    have e : (most (uA C S Q) (uB C S Q) + 2147483648) * S.2 = pU C S Q * S.2 + 2147483648 * S.2 := by rw [Int.add_mul]; rfl
    rw [e] at h
    exact h.le (by omega)
  have dG : Ab (c * GS - 1099511627776 * GE) (mag (pG C S Q) * 1329227995784915872903807060280344576) := by
    have i1 := InK.mul (k := 1) (l := K80) (by decide) (by decide) iCc is1
    have i2 : InK 1329227995784915872903807060280344576 (eA C S Q 1) (1099511627776 * GE) := by
      have a1 := ie1.lo; have a2 := ie1.hi
      have K : K80 = 1208925819614629174706176 := rfl
      rw [K] at a1 a2
      exact ⟨by omega, by omega⟩
    exact mag_k (by decide) (InK.sub (k := 1329227995784915872903807060280344576) i1 i2)
  have dH : Ab (c * HS - 1099511627776 * HE) (mag (pH C S Q) * 1329227995784915872903807060280344576) := by
    have i1 := InK.mul (k := 1) (l := K80) (by decide) (by decide) iCc js1
    have i2 : InK 1329227995784915872903807060280344576 (eB C S Q 1) (1099511627776 * HE) := by
      have a1 := je1.lo; have a2 := je1.hi
      have K : K80 = 1208925819614629174706176 := rfl
      rw [K] at a1 a2
      exact ⟨by omega, by omega⟩
    exact mag_k (by decide) (InK.sub (k := 1329227995784915872903807060280344576) i1 i2)
  have gE := mag_k (k := K80) (by decide) ie1
  have hE := mag_k (k := K80) (by decide) je1
  rw [Int.mul_neg, ← Int.sub_eq_add_neg] at b2
  refine ⟨?_, ?_, ?_⟩
  · have f := axis_x A1 X1 ub vb cb uv dG dH b1 b2 q2' q3' us gE g1 k1 k2
    have f1 := f.lo; have f2 := f.hi
    have i1 := ie1.lo; have i2 := ie1.hi
    have K : K80 = 1208925819614629174706176 := rfl
    rw [K] at i1 i2
    refine in_mk ?_ ?_
    · show -(eA C S Q 1).2 - pEps C S Q ≤ x.1
      unfold pEps pV pE
      omega
    · show x.1 ≤ -(eA C S Q 1).1 + pEps C S Q
      unfold pEps pV pE
      omega
  · have r1 : Ab (SO - (HS * v + -GS * -u)) ((most (sA C S Q) (sB C S Q) - hyp (mag (sA C S Q 1)) (mag (sB C S Q 1))) * (K80 * 1099528404992)) := by
      rw [Int.neg_mul_neg, Int.add_comm]; exact b1
    have r2 : Ab (EA - (HE * -u - -GE * v)) ((most (eA C S Q) (eB C S Q) - hyp (mag (eA C S Q 1)) (mag (eB C S Q 1))) * (K80 * 1099528404992)) := by
      rw [Int.mul_neg, Int.neg_mul, show -(HE * u) - -(GE * v) = GE * v - HE * u by omega]; exact b2
    have d2 : Ab (c * -GS - 1099511627776 * -GE) (mag (pG C S Q) * 1329227995784915872903807060280344576) := by
      rw [Int.mul_neg, Int.mul_neg]
      have := dG.lo; have := dG.hi
      exact ⟨by omega, by omega⟩
    have uv2 : Ab (v * v + -u * -u - 1208925819614629174706176) 4611686018427387904 := by
      rw [Int.neg_mul_neg]; exact ⟨by omega, by omega⟩
    have X2 : Ab (1099511627776 * x.2.1 - (a * v - ea * -u)) 1099511627776 := by
      rw [Int.mul_neg]
      have := Y1.lo; have := Y1.hi
      exact ⟨by omega, by omega⟩
    have f := axis_x A1 X2 vb ub.neg cb uv2 dH d2 r1 r2 q2' q3' us hE g2 k1 k2
    have f1 := f.lo; have f2 := f.hi
    have i1 := je1.lo; have i2 := je1.hi
    have K : K80 = 1208925819614629174706176 := rfl
    rw [K] at i1 i2
    refine in_mk ?_ ?_
    · show -(eB C S Q 1).2 - pEps C S Q ≤ x.2.1
      unfold pEps pV pE
      omega
    · show x.2.1 ≤ -(eB C S Q 1).1 + pEps C S Q
      unfold pEps pV pE
      omega
  · have ip : In (pP C S Q) up := by
      have a1 := b0.lo; have a2 := b0.hi; have a3 := q1'.lo; have a4 := q1'.hi; have a5 := iu0.lo; have a6 := iu0.hi
      have K : K80 = 1208925819614629174706176 := rfl
      rw [K] at a1 a2 a5 a6
      have h0 : 0 ≤ hyp (mag (uA C S Q 0)) (mag (uB C S Q 0)) := by
        unfold mostOK at o2
        rw [List.all_eq_true] at o2
        exact (hypOK_get (o2 0 (by decide))).2
      unfold pU at u1
      refine in_mk ?_ ?_
      · show (uA C S Q 0).1 - (pU C S Q - hyp (mag (uA C S Q 0)) (mag (uB C S Q 0))) - 4294967296 ≤ up
        unfold pU
        omega
      · show up ≤ (uA C S Q 0).2 + (pU C S Q - hyp (mag (uA C S Q 0)) (mag (uB C S Q 0))) + 4294967296
        unfold pU
        omega
    have m := InK.mul (k := 1) (l := 1) (by decide) (by decide) iCc ip
    have h := sob.mul sb
    have c1 := le_ce ((pV C S Q + 2147483648) * S.2)
    have e : (most (sA C S Q) (sB C S Q) + 2147483648) * S.2 = (pV C S Q + 2147483648) * S.2 := rfl
    rw [e] at h
    have m1 := m.lo; have m2 := m.hi; have h1 := h.lo; have h2 := h.hi
    have z1 := Z1.lo; have z2 := Z1.hi
    rw [Int.mul_comm up c] at z1 z2
    refine in_mk ?_ ?_
    · show (imul C (pP C S Q)).1 - ce ((pV C S Q + 2147483648) * S.2) - 2 ≤ x.2.2
      omega
    · show x.2.2 ≤ (imul C (pP C S Q)).2 + ce ((pV C S Q + 2147483648) * S.2) + 2
      omega
end Go.Proofs.YtmhcfkcpoecokaaDoor
namespace Go.Proofs.YtmhcfkcpoecokaaDoor

def poleS : Iv := (0, 7618348470)
def north : Iv := (1099485234268, 1099511627776)
def south : Iv := (-1099511627776, -1099485234268)
/-- From behind the first up to the second. -/
def poleQ : List Iv := [(846407492519, 859001620830), (859001620831, 871595749142), (871595749143, 884189877454), (884189877455, 896784005766), (896784005767, 909378134078), (909378134079, 921972262390), (921972262391, 934566390702), (934566390703, 947160519014), (947160519015, 959754647326), (959754647327, 972348775638), (972348775639, 984942903950), (984942903951, 997537032262), (997537032263, 1010131160574), (1010131160575, 1022725288886), (1022725288887, 1035319417198), (1035319417199, 1047913545510), (1047913545511, 1060507673822), (1060507673823, 1073101802134), (1073101802135, 1085695930446), (1085695930447, 1098290058758)]
def wider (Q : Iv) : Iv := (Q.1 - 40000000, Q.2 + 1)
theorem poleQ_chain : chain 1098290058738 846407492518 poleQ = true := by decide +kernel
theorem north_ok : poleQ.all (fun Q => poleOK north poleS (wider Q)) = true := by decide +kernel
theorem south_ok : poleQ.all (fun Q => poleOK south poleS (wider Q)) = true := by decide +kernel
theorem in_near {X : Iv} {a b K : Int} (ha : In X a) (hb : In X b) (h : X.2 - X.1 ≤ K) : Ab (a - b) K := by
  have := ha.lo; have := ha.hi; have := hb.lo; have := hb.hi
  exact ⟨by omega, by omega⟩
theorem pole_wide {C S Q : Iv} (ok : poleOK C S Q = true) : (pX C S Q).2 - (pX C S Q).1 ≤ 8796093022208 ∧ (pY C S Q).2 - (pY C S Q).1 ≤ 8796093022208 ∧ (pZ C S Q).2 - (pZ C S Q).1 ≤ 8796093022208 ∧ (10995116277761 ≤ (pZ C S Q).1 ∨ (pZ C S Q).2 ≤ -10995116277761) := by
  unfold poleOK at ok
  simp only [Bool.and_eq_true, Bool.or_eq_true, decide_eq_true_eq] at ok
  exact ⟨ok.1.1.1.2, ok.1.1.2, ok.1.2, ok.2⟩
/-- What a place near the axis says: the cosine and the sine of its latitude. -/
theorem near_axis {x y z r c s w : Int} (hx : Ab x 34359738368) (hy : Ab y 34359738368) (z1 : z ≤ -7013000000000 ∨ 7013000000000 ≤ z) (R : Rt r (x * x + y * y + z * z)) (W : Rt w (x * x + y * y)) (pc : Ab (2 * (c * r - z * 1099511627776)) r) (ps : Ab (2 * (s * r - w * 1099511627776)) r) (cb : Ab c 1099511627776) (s0 : 0 ≤ s) (cs : Ab (c * c + s * s - 1208925819614629174706176) 4398046511104) :
    In poleS s ∧ (0 < z → In north c) ∧ (z < 0 → In south c) := by
  have xx := (hx.mul hx).hi; have yy := (hy.mul hy).hi
  have x0 := sq_nonneg x; have y0 := sq_nonneg y; have z0 := sq_nonneg z
  have w1 : w ≤ 48592008000 := by
    apply Classical.byContradiction
    intro g
    have := Int.mul_le_mul (show 48592008001 ≤ w by omega) (show 48592008001 ≤ w by omega) (by decide) (by omega)
    have := W.lo
    omega
  have r1 : 7013000000000 ≤ r := by
    have zr : Ab z r := sq_lt R.n0 (by have := R.hi; omega)
    have := zr.lo; have := zr.hi
    omega
  have s1 : s ≤ 7618348470 := by
    apply Classical.byContradiction
    intro g
    have := Int.mul_le_mul (show 7618348471 ≤ s by omega) r1 (by decide) (by omega)
    have q := Int.mul_le_mul_of_nonneg_right (show 7618348471 ≤ s by omega) (show 0 ≤ r by omega)
    have := ps.hi
    omega
  have ss := Int.mul_le_mul s1 s1 s0 (by decide)
  refine ⟨in_mk s0 s1, fun h => ?_, fun h => ?_⟩
  · refine in_mk ?_ cb.hi
    show 1099485234268 ≤ c
    have c0 : 0 ≤ c := by
      apply Classical.byContradiction
      intro g
      have := Int.mul_le_mul_of_nonneg_right (show 1 ≤ -c by omega) (show 0 ≤ r by omega)
      rw [Int.neg_mul] at this
      have := pc.lo
      omega
    apply Classical.byContradiction
    intro g
    have := Int.mul_le_mul (show c ≤ 1099485234267 by omega) (show c ≤ 1099485234267 by omega) c0 (by decide)
    have := cs.lo
    omega
  · refine in_mk cb.lo ?_
    show c ≤ -1099485234268
    have c0 : c ≤ 0 := by
      apply Classical.byContradiction
      intro g
      have := Int.mul_le_mul_of_nonneg_right (show 1 ≤ c by omega) (show 0 ≤ r by omega)
      have := pc.hi
      omega
    apply Classical.byContradiction
    intro g
    have := Int.mul_le_mul (show -c ≤ 1099485234267 by omega) (show -c ≤ 1099485234267 by omega) (by omega) (by decide)
    rw [Int.neg_mul_neg] at this
    have := cs.lo
    omega
/-- What FieldPole asks, of both places' steps. -/
structure Poles (x y z yr : Int) : Type where
  (ra rb : Int)
  ha : normS false 0 0 z = (ra, false)
  hb : normS false x y z = (rb, false)
  a0 : 6597069766656 ≤ ra
  a1 : ra ≤ 10995116277760
  b0 : 6597069766656 ≤ rb
  b1 : rb ≤ 10995116277760
  A : Earth (0, 0, z) yr ra
  B : Earth (x, y, z) yr rb
  dx : Ab (A.b.1 - B.b.1) 8796093022208
  dy : Ab (A.b.2.1 - B.b.2.1) 8796093022208
  dz : Ab (A.b.2.2 - B.b.2.2) 8796093022208
  sa : St3 A.b 562949953421316
  sb : St3 B.b 562949953421316
  N : Int
  hN : normS false A.b.1 A.b.2.1 A.b.2.2 = (N, false)
  N0 : 10995116277760 < N
theorem poles_at {x y z yr : Int} (hx : Ab x 34359738368) (hy : Ab y 34359738368) (z1 : z ≤ -7013000000000 ∨ 7013000000000 ≤ z) (zb : Ab z 9100000000000) (y0 : 0 ≤ yr) (y1 : yr ≤ 5497558138880) : Nonempty (Poles x y z yr) := by
  have xx := (hx.mul hx).hi; have yy := (hy.mul hy).hi
  have x0 := sq_nonneg x; have y0' := sq_nonneg y; have z0 := sq_nonneg z
  have zz := (zb.mul zb).hi
  obtain ⟨ra, hra, za⟩ : ∃ ra, ra * ra = z * z ∧ (ra = z ∧ 0 < z ∨ ra = -z ∧ z < 0) := by
    rcases z1 with h | h
    · exact ⟨-z, Int.neg_mul_neg _ _, .inr ⟨rfl, by omega⟩⟩
    · exact ⟨z, rfl, .inl ⟨rfl, by omega⟩⟩
  have ra0 : 7013000000000 ≤ ra := by omega
  have ra1 : ra ≤ 9100000000000 := by have := zb.lo; have := zb.hi; omega
  have e1 : (ra + 1) * (ra + 1) = ra * ra + 2 * ra + 1 := by grind
  have nz := zb.numB (by decide)
  have ha : normS false 0 0 z = (ra, false) := normS_make (by rfl) (by rfl) nz (by omega) (by omega) (by omega) (by omega)
  have hs := isq_spec (x * x + y * y + z * z) (by omega) (by omega)
  generalize isq (x * x + y * y + z * z) = rb at hs
  have R : Rt rb (x * x + y * y + z * z) := ⟨hs.1, hs.2.1, hs.2.2⟩
  have rb0 : ra ≤ rb := by
    apply Classical.byContradiction
    intro g
    have := Int.mul_le_mul (show rb + 1 ≤ ra by omega) (show rb + 1 ≤ ra by omega) (by omega) (by omega)
    have := R.hi
    omega
  have rb1 : rb ≤ ra + 168500000 := by
    apply Classical.byContradiction
    intro g
    have := Int.mul_le_mul (show ra + 168500000 ≤ rb by omega) (show ra + 168500000 ≤ rb by omega) (by omega) (by omega)
    have e : (ra + 168500000) * (ra + 168500000) = ra * ra + 337000000 * ra + 28392250000000000 := by grind
    have := R.lo
    omega
  have hb : normS false x y z = (rb, false) := normS_make (hx.numB (by decide)) (hy.numB (by decide)) nz R.n0 (by omega) R.lo R.hi
  obtain ⟨A⟩ := earth_at (p := (0, 0, z)) ha (by omega) (by omega) y0 y1
  obtain ⟨B⟩ := earth_at (p := (x, y, z)) hb (by omega) (by omega) y0 y1
  have Ra : Rt ra (0 * 0 + 0 * 0 + z * z) := ⟨by omega, by omega, by omega⟩
  have na := near_axis (x := 0) (y := 0) (z := z) ⟨by decide, by decide⟩ ⟨by decide, by decide⟩ z1 Ra A.W A.pc A.ps A.cb A.s0 A.cs
  have nb := near_axis (z := z) hx hy z1 R B.W B.pc B.ps B.cb B.s0 B.cs
  have pa := A.pq; have pb := B.pq
  have qa0 : 846407492518 < A.q := by
    apply Classical.byContradiction
    intro g
    have := Int.mul_le_mul (show A.q ≤ 846407492518 by omega) ra1 (by omega) (by decide)
    have := pa.lo
    omega
  have qa1 : A.q ≤ 1098290058738 := by
    apply Classical.byContradiction
    intro g
    have := Int.mul_le_mul (show 1098290058739 ≤ A.q by omega) ra0 (by decide) (by omega)
    have := pa.hi
    omega
  have qb1 : B.q ≤ A.q + 1 := by
    apply Classical.byContradiction
    intro g
    have k1 := Int.mul_le_mul (show A.q + 2 ≤ B.q by omega) rb0 (by omega) (by have := B.Z.L.q0; omega)
    rw [Int.add_mul] at k1
    have := pa.lo; have := pb.hi
    omega
  have qb0 : A.q - 40000000 + 1 ≤ B.q := by
    apply Classical.byContradiction
    intro g
    have k1 := Int.mul_le_mul (show B.q ≤ A.q - 40000000 by omega) rb1 (by omega) (by omega)
    have e : (A.q - 40000000) * (ra + 168500000) = A.q * ra + 168500000 * A.q - 40000000 * ra - 6740000000000000 := by grind
    have := pa.hi; have := pb.lo
    omega
  obtain ⟨Q, hQ, l, u⟩ := chain_get qa1 _ _ poleQ_chain qa0
  have iA : In (wider Q) A.q := in_mk (by show Q.1 - 40000000 ≤ A.q; omega) (by show A.q ≤ Q.2 + 1; omega)
  have iB : In (wider Q) B.q := in_mk (by show Q.1 - 40000000 ≤ B.q; omega) (by show B.q ≤ Q.2 + 1; omega)
  have C : ∃ C, In C A.c ∧ In C B.c ∧ poleOK C poleS (wider Q) = true := by
    rcases za with ⟨_, h⟩ | ⟨_, h⟩
    · exact ⟨north, na.2.1 h, nb.2.1 h, List.all_eq_true.1 north_ok Q hQ⟩
    · exact ⟨south, na.2.2 h, nb.2.2 h, List.all_eq_true.1 south_ok Q hQ⟩
  obtain ⟨C, cA, cB, ok⟩ := C
  have PA := pole_at A cA na.1 iA ok
  have PB := pole_at B cB nb.1 iB ok
  obtain ⟨wx, wy, wz, far⟩ := pole_wide ok
  obtain ⟨_, _, sa⟩ := A.long (by omega) (by omega)
  obtain ⟨_, _, sb⟩ := B.long (by omega) (by omega)
  have q0 := sq_nonneg A.b.1; have q1 := sq_nonneg A.b.2.1; have q2 := sq_nonneg A.b.2.2
  have k0 := (sa.a.mul sa.a).hi; have k1 := (sa.b.mul sa.b).hi; have k2 := (sa.c.mul sa.c).hi
  have hn := isq_spec (A.b.1 * A.b.1 + A.b.2.1 * A.b.2.1 + A.b.2.2 * A.b.2.2) (by omega) (by omega)
  generalize isq (A.b.1 * A.b.1 + A.b.2.1 * A.b.2.1 + A.b.2.2 * A.b.2.2) = N at hn
  have N1 : N ≤ 4503599627370496 := by
    apply Classical.byContradiction
    intro g
    have := Int.mul_le_mul (show 4503599627370496 ≤ N by omega) (show 4503599627370496 ≤ N by omega) (by decide) (by omega)
    omega
  have N0 : 10995116277760 < N := by
    have zz : 10995116277761 * 10995116277761 ≤ A.b.2.2 * A.b.2.2 := by
      have i1 := PA.2.2.lo; have i2 := PA.2.2.hi
      rcases far with f | f
      · exact Int.mul_le_mul (by omega) (by omega) (by decide) (by omega)
      · have := Int.mul_le_mul (show 10995116277761 ≤ -A.b.2.2 by omega) (show 10995116277761 ≤ -A.b.2.2 by omega) (by decide) (by omega)
        rw [Int.neg_mul_neg] at this
        exact this
    apply Classical.byContradiction
    intro g
    have := Int.mul_le_mul (show N + 1 ≤ 10995116277761 by omega) (show N + 1 ≤ 10995116277761 by omega) (by omega) (by decide)
    omega
  exact ⟨⟨ra, rb, ha, hb, by omega, by omega, by omega, by omega, A, B, in_near PA.1 PB.1 wx, in_near PA.2.1 PB.2.1 wy, in_near PA.2.2 PB.2.2 wz, sa, sb, N, normS_make (sa.a.numB (by decide)) (sa.b.numB (by decide)) (sa.c.numB (by decide)) hn.1 (by omega) hn.2.1 hn.2.2, N0⟩⟩
end Go.Proofs.YtmhcfkcpoecokaaDoor
