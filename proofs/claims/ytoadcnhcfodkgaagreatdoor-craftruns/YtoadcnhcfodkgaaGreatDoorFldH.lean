/-
  The field as three parts: how long it is, for the seat YtoadcnhcfodkgaaGreatDoor. No Go text in sight.
-/
import Derived.Test.YtoadcnhcfodkgaaGreatDoorFldG
namespace Go.Proofs.YtoadcnhcfodkgaaGreatDoor

/-- Up, south and east as x, y and z. -/
def vecS (bad : Bool) (w : V3) (c s u v : Int) : V3 × Bool :=
  let r1 := mulS bad w.1 s; let r2 := mulS r1.2 w.2.1 c; let r3 := addS r2.2 r1.1 r2.1
  let r4 := mulS r3.2 r3.1 u; let r5 := mulS r4.2 w.2.2 v; let r6 := subS r5.2 r4.1 r5.1
  let r7 := mulS r6.2 r3.1 v; let r8 := mulS r7.2 w.2.2 u; let r9 := addS r8.2 r7.1 r8.1
  let r10 := mulS r9.2 w.1 c; let r11 := mulS r10.2 w.2.1 s; let r12 := subS r11.2 r10.1 r11.1
  ((r6.1, r9.1, r12.1), r12.2)
/-- Two products, added: what rounding makes of their square. -/
theorem sq_near {m p q r s : Int} {K : Int} (h : Ab (1099511627776 * m - (p * q + r * s)) 1099511627776) (hm : Ab m K) : Ab (1208925819614629174706176 * (m * m) - (p * q + r * s) * (p * q + r * s)) (1099511627776 * (2199023255552 * K + 1099511627776)) := by
  have e : 1208925819614629174706176 * (m * m) - (p * q + r * s) * (p * q + r * s) = (1099511627776 * m - (p * q + r * s)) * (2199023255552 * m - (1099511627776 * m - (p * q + r * s))) := by grind
  rw [e]
  refine h.mul ?_
  have := h.lo; have := h.hi; have := hm.lo; have := hm.hi
  exact ⟨by omega, by omega⟩
theorem vec_at {w : V3} {c s u v : Int} (B : w.1 * w.1 + w.2.1 * w.2.1 + w.2.2 * w.2.2 ≤ 9903520314283042199192993792) (cb : Ab c 1099511627776) (sb : Ab s 1099511627776) (ub : Ab u 1099511627776) (vb : Ab v 1099511627776)
    (cs : Ab (c * c + s * s - 1208925819614629174706176) 4398046511104) (uv : u * u + v * v ≤ 1208925819614629174706176 + 4611686018427387904) (uv' : 1208925819614629174706176 - 4398046511104 ≤ u * u + v * v) :
    ∃ x, vecS false w c s u v = (x, false) ∧ Ab (x.1 * x.1 + x.2.1 * x.2.1 + x.2.2 * x.2.2 - (w.1 * w.1 + w.2.1 * w.2.1 + w.2.2 * w.2.2)) 75557863725914323419136 ∧ St3 x 562949953421316 := by
  have a0 := sq_nonneg w.1; have b0 := sq_nonneg w.2.1; have c0 := sq_nonneg w.2.2
  have ab : Ab w.1 140737488355327 := sq_lt (by decide) (by omega)
  have bb : Ab w.2.1 140737488355327 := sq_lt (by decide) (by omega)
  have eb : Ab w.2.2 140737488355327 := sq_lt (by decide) (by omega)
  obtain ⟨v1, h1, q1, b1⟩ := mul_x (B := 140737488355328) ab sb (by decide) (by decide) (by decide) (by decide)
  obtain ⟨v2, h2, q2, b2⟩ := mul_x (B := 140737488355328) bb cb (by decide) (by decide) (by decide) (by decide)
  have h3 := add_near b1 b2 (by decide) (by decide) (by decide)
  have b3 := b1.add b2
  obtain ⟨v4, h4, q4, b4⟩ := mul_x (B := 281474976710657) b3 ub (by decide) (by decide) (by decide) (by decide)
  obtain ⟨v5, h5, q5, b5⟩ := mul_x (B := 140737488355328) eb vb (by decide) (by decide) (by decide) (by decide)
  have h6 := sub_near b4 b5 (by decide) (by decide) (by decide)
  obtain ⟨v7, h7, q7, b7⟩ := mul_x (B := 281474976710657) b3 vb (by decide) (by decide) (by decide) (by decide)
  obtain ⟨v8, h8, q8, b8⟩ := mul_x (B := 140737488355328) eb ub (by decide) (by decide) (by decide) (by decide)
  have h9 := add_near b7 b8 (by decide) (by decide) (by decide)
  obtain ⟨v10, h10, q10, b10⟩ := mul_x (B := 140737488355328) ab cb (by decide) (by decide) (by decide) (by decide)
  obtain ⟨v11, h11, q11, b11⟩ := mul_x (B := 140737488355328) bb sb (by decide) (by decide) (by decide) (by decide)
  have h12 := sub_near b10 b11 (by decide) (by decide) (by decide)
  refine ⟨(v4 - v5, v7 + v8, v10 - v11), by unfold vecS; simp only [h1, h2, h3, h4, h5, h6, h7, h8, h9, h10, h11, h12], ?_, ⟨(b4.sub b5).le (by decide), (b7.add b8).le (by decide), (b10.sub b11).le (by decide)⟩⟩
  have A : Ab (1099511627776 * (v1 + v2) - (w.1 * s + w.2.1 * c)) 1099511627776 := by
    have := q1.lo; have := q1.hi; have := q2.lo; have := q2.hi
    exact ⟨by omega, by omega⟩
  have X : Ab (1099511627776 * (v4 - v5) - ((v1 + v2) * u + w.2.2 * -v)) 1099511627776 := by
    have := q4.lo; have := q4.hi; have := q5.lo; have := q5.hi
    rw [Int.mul_neg]
    exact ⟨by omega, by omega⟩
  have Y : Ab (1099511627776 * (v7 + v8) - ((v1 + v2) * v + w.2.2 * u)) 1099511627776 := by
    have := q7.lo; have := q7.hi; have := q8.lo; have := q8.hi
    exact ⟨by omega, by omega⟩
  have Z : Ab (1099511627776 * (v10 - v11) - (w.1 * c + w.2.1 * -s)) 1099511627776 := by
    have := q10.lo; have := q10.hi; have := q11.lo; have := q11.hi
    rw [Int.mul_neg]
    exact ⟨by omega, by omega⟩
  have sA := sq_near A b3
  have sX := sq_near X (b4.sub b5)
  have sY := sq_near Y (b7.add b8)
  have sZ := sq_near Z (b10.sub b11)
  have e1 : (w.1 * s + w.2.1 * c) * (w.1 * s + w.2.1 * c) + (w.1 * c + w.2.1 * -s) * (w.1 * c + w.2.1 * -s) = 1208925819614629174706176 * (w.1 * w.1 + w.2.1 * w.2.1) + (w.1 * w.1 + w.2.1 * w.2.1) * (c * c + s * s - 1208925819614629174706176) := by grind
  have e2 : ((v1 + v2) * u + w.2.2 * -v) * ((v1 + v2) * u + w.2.2 * -v) + ((v1 + v2) * v + w.2.2 * u) * ((v1 + v2) * v + w.2.2 * u) = ((v1 + v2) * (v1 + v2) + w.2.2 * w.2.2) * (u * u + v * v) := by grind
  have n1 : Ab (w.1 * w.1 + w.2.1 * w.2.1) 9903520314283042199192993792 := ⟨by omega, by omega⟩
  have m1 := n1.mul cs
  have aa := sq_nonneg (v1 + v2)
  have zz := sq_nonneg (v10 - v11)
  have u1 := Int.mul_le_mul_of_nonneg_left uv (show 0 ≤ (v1 + v2) * (v1 + v2) + w.2.2 * w.2.2 by omega)
  have u2 := Int.mul_le_mul_of_nonneg_left uv' (show 0 ≤ (v1 + v2) * (v1 + v2) + w.2.2 * w.2.2 by omega)
  have l1 := sA.lo; have r1 := sA.hi; have l2 := sX.lo; have r2 := sX.hi; have l3 := sY.lo; have r3 := sY.hi; have l4 := sZ.lo; have r4 := sZ.hi; have l5 := m1.lo; have r5 := m1.hi
  show Ab ((v4 - v5) * (v4 - v5) + (v7 + v8) * (v7 + v8) + (v10 - v11) * (v10 - v11) - (w.1 * w.1 + w.2.1 * w.2.1 + w.2.2 * w.2.2)) _
  generalize (w.1 * w.1 + w.2.1 * w.2.1) * (c * c + s * s - 1208925819614629174706176) = M at *
  generalize ((v1 + v2) * (v1 + v2) + w.2.2 * w.2.2) * (u * u + v * v) = N at *
  generalize (w.1 * s + w.2.1 * c) * (w.1 * s + w.2.1 * c) = P1 at *
  generalize (w.1 * c + w.2.1 * -s) * (w.1 * c + w.2.1 * -s) = P2 at *
  generalize ((v1 + v2) * u + w.2.2 * -v) * ((v1 + v2) * u + w.2.2 * -v) = P3 at *
  generalize ((v1 + v2) * v + w.2.2 * u) * ((v1 + v2) * v + w.2.2 * u) = P4 at *
  generalize (v1 + v2) * (v1 + v2) = T1 at *
  generalize (v4 - v5) * (v4 - v5) = T2 at *
  generalize (v7 + v8) * (v7 + v8) = T3 at *
  generalize (v10 - v11) * (v10 - v11) = T4 at *
  generalize w.1 * w.1 = W1 at *
  generalize w.2.1 * w.2.1 = W2 at *
  generalize w.2.2 * w.2.2 = W3 at *
  exact ⟨by omega, by omega⟩
/-- A sum that is worked, of what the sum is at most. -/
theorem worked {p P U : Int} (h : Ab (1329227995784915872903807060280344576 * p - P) 16333553612205046246241981156724874149888) (hP : Ab P (U * (K80 * 1099528404992))) (U1 : U ≤ 97856534872064) : Ab p (U + 2147483648) := by
  have K : K80 = 1208925819614629174706176 := rfl
  rw [K] at hP
  have := h.lo; have := h.hi; have := hP.lo; have := hP.hi
  exact ⟨by omega, by omega⟩
theorem le_root {U N : Int} (h : U * U ≤ N * N) (N0 : 0 ≤ N) : U ≤ N := (sq_le h N0).hi
/-- In a box that is well, up, south and east are 3.09 at least and 89.01 at most together. -/
theorem sums_bd {C S Q : Iv} {c s q y u v : Int} (Z : Sums C S Q c s q y u v) (B : Bx c s q (gS y) (hS y) (fun m => (wv u v m).1) (fun m => (wv u v m).2)) :
    (outS c s q y u v 6).1 * (outS c s q y u v 6).1 + (outS c s q y u v 6).2.1 * (outS c s q y u v 6).2.1 + (outS c s q y u v 6).2.2 * (outS c s q y u v 6).2.2 ≤ 9580000000000000000000000000 ∧
    11540000000000000000000000 ≤ (outS c s q y u v 6).1 * (outS c s q y u v 6).1 + (outS c s q y u v 6).2.1 * (outS c s q y u v 6).2.1 := by
  obtain ⟨_, o1, o2, o3⟩ := out_at Z 6 (by decide)
  have o1' : Ab (1329227995784915872903807060280344576 * (outS c s q y u v 6).1 - UPx c s q (gS y) (hS y) (fun m => (wv u v m).1) (fun m => (wv u v m).2)) 16333553612205046246241981156724874149888 := o1
  have o2' : Ab (1329227995784915872903807060280344576 * -(outS c s q y u v 6).2.1 - SOx c s q (gS y) (hS y) (fun m => (wv u v m).1) (fun m => (wv u v m).2)) 16333553612205046246241981156724874149888 := o2
  have o3' : Ab (1329227995784915872903807060280344576 * (outS c s q y u v 6).2.2 - EAx c s q (gS y) (hS y) (fun m => (wv u v m).1) (fun m => (wv u v m).2)) 16333553612205046246241981156724874149888 := o3
  obtain ⟨U, V, E, r, d, up, so, ea, sq, rd, low⟩ := B
  generalize UPx c s q (gS y) (hS y) (fun m => (wv u v m).1) (fun m => (wv u v m).2) = P at *
  generalize SOx c s q (gS y) (hS y) (fun m => (wv u v m).1) (fun m => (wv u v m).2) = R at *
  generalize EAx c s q (gS y) (hS y) (fun m => (wv u v m).1) (fun m => (wv u v m).2) = T at *
  generalize (outS c s q y u v 6).1 = a at *
  generalize (outS c s q y u v 6).2.1 = b at *
  generalize (outS c s q y u v 6).2.2 = e at *
  have u0 := sq_nonneg U; have v0 := sq_nonneg V; have e0 := sq_nonneg E
  have U1 : U ≤ 97856534872064 := le_root (by omega) (by decide)
  have V1 : V ≤ 97856534872064 := le_root (by omega) (by decide)
  have E1 : E ≤ 97856534872064 := le_root (by omega) (by decide)
  have ha := worked o1' up U1
  have hb := (worked o2' so V1).neg
  rw [Int.neg_neg] at hb
  have he := worked o3' ea E1
  constructor
  · have s1 := ab_sq ha; have s2 := ab_sq hb; have s3 := ab_sq he
    have x1 : (U + 2147483648) * (U + 2147483648) = U * U + 4294967296 * U + 4611686018427387904 := by grind
    have x2 : (V + 2147483648) * (V + 2147483648) = V * V + 4294967296 * V + 4611686018427387904 := by grind
    have x3 : (E + 2147483648) * (E + 2147483648) = E * E + 4294967296 * E + 4611686018427387904 := by grind
    omega
  · -- along (r, d)
    have r2 := sq_nonneg r; have d2 := sq_nonneg d
    have rb : Ab r 1000 := sq_le (by omega) (by decide)
    have db : Ab d 1000 := sq_le (by omega) (by decide)
    have f1 := rb.mul o1'
    have f2 := db.mul o2'
    have k : -(r * a + d * b) * 1329227995784915872903807060280344576 = -(r * P - d * R) - r * (1329227995784915872903807060280344576 * a - P) + d * (1329227995784915872903807060280344576 * -b - R) := by grind
    have L : 3408486016105000 ≤ -(r * a + d * b) := by
      have K : K80 = 1208925819614629174706176 := rfl
      rw [K] at low
      have := f1.lo; have := f1.hi; have := f2.lo; have := f2.hi
      generalize r * (1329227995784915872903807060280344576 * a - P) = F1 at *
      generalize d * (1329227995784915872903807060280344576 * -b - R) = F2 at *
      generalize r * a + d * b = W at *
      generalize r * P - d * R = X at *
      omega
    have LL := Int.mul_le_mul L L (by decide) (by omega)
    rw [Int.neg_mul_neg] at LL
    have cs := sq_nonneg (r * b - d * a)
    have ce : (r * a + d * b) * (r * a + d * b) = (r * r + d * d) * (a * a + b * b) - (r * b - d * a) * (r * b - d * a) := by grind
    have ab0 : 0 ≤ a * a + b * b := by have := sq_nonneg a; have := sq_nonneg b; omega
    have m := Int.mul_le_mul_of_nonneg_right rd ab0
    omega
end Go.Proofs.YtoadcnhcfodkgaaGreatDoor
